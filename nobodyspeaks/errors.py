"""The errors that the library raises on purpose."""


class SpeakError(ValueError):
    """What all errors of the library have in common; it is never raised itself."""


class Misfit(SpeakError):
    """A text is refused at its word number `at`, from 0."""

    def __init__(self, at):
        super().__init__(f"the text is refused at word {at}")
        self.at = at


class BadValue(SpeakError):
    """A value is told that cannot be one here."""


class Missing(SpeakError):
    """There is nothing of this name or number."""


class Busy(SpeakError):
    """This is not the time for it: something runs that must be at rest, or is down that must be up."""


class Refused(SpeakError):
    """A journal has a choice or an edit that cannot be made."""
