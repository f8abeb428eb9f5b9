"""Desks: hosts that can crash, and an outside that does each allowed use once."""

from nobodyspeaks.errors import Busy
from nobodyspeaks.hosts import Host, replay


class Desk:
    """A host that can crash. What is noted outlives a crash: the choices made, and how many uses have ended."""

    def __init__(self, system, silent):
        self.system = system
        self.silent = silent
        # None while the desk is down.
        self.agent = Host(system, silent)
        self.noted = []
        self.ended = 0
        self.is_sent = False
        self.outside = []

    def move(self, move):
        """Makes the move and returns True; returns False, and changes nothing, if it cannot be made."""
        if self.agent is None:
            return move == ("resume",) and self._resume()
        if move == ("send",):
            return self._send()
        if move == ("hear",):
            return self._hear()
        if move == ("crash",):
            return self._crash()
        return self._choose(move)

    def told(self):
        """The tuple (up, sent, ended, outside, uses)."""
        return self.agent is not None, self.is_sent, self.ended, list(self.outside), self._allowed_uses()

    def host(self):
        """A copy of the host; Busy while the desk is down."""
        if self.agent is None:
            raise Busy("the desk is down")
        return self.agent.copy_of()

    def _allowed_uses(self):
        """How many allowed uses the host has made; none while the desk is down."""
        if self.agent is None:
            return 0
        return len([use for use in self.agent.uses() if use[6]])

    def _choose(self, choice):
        if not self.agent.choose(choice):
            return False
        self.noted.append(choice)
        return True

    def _send(self):
        if self.ended >= self._allowed_uses():
            return False
        # A crash may have hidden that it was done: the outside knows it by its number.
        if self.ended not in self.outside:
            self.outside.append(self.ended)
        self.is_sent = True
        return True

    def _hear(self):
        if not self.is_sent:
            return False
        self.is_sent = False
        self.ended += 1
        return True

    def _crash(self):
        self.agent = None
        self.is_sent = False
        return True

    def _resume(self):
        self.agent = replay(self.system, self.silent, self.noted)
        return True
