"""The words of a text, gone through from the first to the last."""

from nobodyspeaks.errors import Misfit
from nobodyspeaks.names import is_name


class Words:
    """The words of a text, and how far they have been read. A word that cannot stand where it stands is refused."""

    def __init__(self, text):
        # Blanks alone separate words: white space of another kind is left in its word, which is then no name.
        self.words = [word for word in text.split(" ") if word]
        self.at = 0

    def here(self):
        """The word that is come to; behind the last one it is empty, as no word is."""
        return self.words[self.at] if self.at < len(self.words) else ""

    def pick(self, fitting):
        """The word that is come to, if it is one of these; it is gone past."""
        word = self.here()
        if word not in fitting:
            raise Misfit(self.at)
        self.at += 1
        return word

    def need(self, word):
        """Goes past this word, which must be the one that is come to."""
        self.pick([word])

    def number(self, names):
        """The number, among these names, of the word that is come to; it is gone past."""
        return names.index(self.pick(names))

    def fresh(self, taken):
        """The word that is come to, if it is a name and not one of those taken; it is gone past."""
        word = self.here()
        if not is_name(word) or word in taken:
            raise Misfit(self.at)
        self.at += 1
        return word

    def finish(self):
        """Refuses a word that is left."""
        if self.at < len(self.words):
            raise Misfit(self.at)
