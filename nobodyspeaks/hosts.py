"""Hosts, which run a system choice by choice, and what their journals make again."""

from nobodyspeaks.edits import edited
from nobodyspeaks.errors import Busy, Misfit, Missing, Refused
from nobodyspeaks.policies import first_ground
from nobodyspeaks.steps import answered, begin, outcomes, step


class Host:
    """A system that runs. The frames stand with the one that runs last, ahead of it the one that waits for it."""

    def __init__(self, system, silent):
        self.system = system
        self.silent = silent
        # Edits change the system of the host, but its journal is made again from the one that it began with.
        self.first_system = system
        self.common = first_ground(system)
        self.row = [(task, tuple([(word, 0) for word in words]), 0) for task, words in system.starts]
        self.frames = []
        self.made_uses = []
        self.entries = []

    def choose(self, choice):
        """Makes the choice and returns True; returns False, and changes nothing, if it cannot be made."""
        if not self._can_choose(choice):
            return False
        if choice[0] == "take":
            self._take(choice[1])
        elif choice[0] == "go":
            self._go(choice[1])
        else:
            self.common = _turned(self.common)
        self.entries.append(choice)
        return True

    def play(self, choices):
        """Makes the choices up to the first that cannot be made, and returns how many were made."""
        many = 0
        for choice in choices:
            if not self.choose(choice):
                return many
            many += 1
        return many

    def at_rest(self):
        """True if nothing runs."""
        return not self.frames

    def ground(self):
        """The ground as it is."""
        return self.common

    def waiting(self):
        """The list of the tasks that wait."""
        return list(self.row)

    def running(self):
        """The list of the frames, the one that runs first, then those that wait for it; None at rest."""
        if self.at_rest():
            return None
        return list(reversed(self.frames))

    def uses(self):
        """The list of the uses made so far, each with its point at its end."""
        return list(self.made_uses)

    def choices(self):
        """The list of all choices that can be made now."""
        if not self.at_rest():
            return [("go", outcome) for outcome in range(self._outcomes())]
        takes = [("take", at) for at in range(len(self.row))]
        return [("turn",), *takes] if self._can_turn() else takes

    def journal(self):
        """The list of all choices and edits made."""
        return list(self.entries)

    def copy_of(self):
        """A host in the same state that has nothing in common with this one."""
        other = Host(self.system, self.silent)
        other.first_system = self.first_system
        other.common = self.common
        other.row = list(self.row)
        other.frames = list(self.frames)
        other.made_uses = list(self.made_uses)
        other.entries = list(self.entries)
        return other

    def edit(self, text):
        """Gives the host the edited system; Busy if something runs, Misfit if the edit does not fit the system."""
        if not self.at_rest():
            raise Busy("a host is edited at rest")
        self.system = edited(self.system, text)
        self.entries.append(("edit", text))

    def _can_turn(self):
        _, policy, _ = self.common
        return self.at_rest() and policy + 1 < len(self.system.policies)

    def _outcomes(self):
        return outcomes(self.system, self.frames[-1], self.silent)

    def _can_choose(self, choice):
        if len(choice) != 2:
            return choice == ("turn",) and self._can_turn()
        word, number = choice
        if not isinstance(number, int) or isinstance(number, bool):
            return False
        if word == "take":
            return self.at_rest() and 0 <= number < len(self.row)
        return word == "go" and not self.at_rest() and 0 <= number < self._outcomes()

    def _take(self, at):
        procedure, arguments, mark = self.row.pop(at)
        self.frames.append(begin(self.system, procedure, arguments, mark))

    def _go(self, outcome):
        frame = self.frames.pop()
        told = step(self.system, frame, self.common, outcome)
        if told[0] == "goes":
            _, behind, self.common, posted, use = told
            self.frames.append(behind)
            self.row.extend(posted)
            if use is not None:
                self.made_uses.append((*use, self._point_of(frame)))
        elif told[0] == "calls":
            _, waits, begun = told
            self.frames.extend([waits, begun])
        elif self.frames:
            _, answer, mark = told
            waits = self.frames.pop()
            self.frames.append(answered(self.system, waits, answer, mark))

    def _point_of(self, frame):
        return self.system.parts.procedures[frame[0]].name, frame[1]


def _turned(ground):
    """The ground with the next policy in force."""
    cells, policy, counts = ground
    return cells, policy + 1, counts


def replay(system, silent, journal):
    """The host that the journal makes of one that begins; Refused at the first entry that cannot be made."""
    host = Host(system, silent)
    for entry in journal:
        if len(entry) == 2 and entry[0] == "edit" and isinstance(entry[1], str):
            _edit_again(host, entry[1])
        elif not host.choose(entry):
            raise Refused("the journal has a choice that cannot be made")
    return host


def _edit_again(host, text):
    try:
        host.edit(text)
    except (Busy, Misfit) as error:
        raise Refused("the journal has an edit that cannot be made") from error


def past(host, n):
    """The host behind the first n entries of its journal; Missing if there are fewer."""
    journal = host.journal()
    if not 0 <= n <= len(journal):
        raise Missing(f"the journal has no {n} entries")
    return replay(host.first_system, host.silent, journal[:n])
