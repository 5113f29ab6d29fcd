"""Consoles: worksheets that keep their definitions and their entries."""

from indicial.errors import Refused
from indicial.log import write_log
from indicial.replies import names_behind, reply_to


class Console:
    """A worksheet with a letter for the variable and the greatest number of its lines."""

    def __init__(self, *, name="x", most=1000):
        self._name = name
        self._most = most
        self._defined = {}
        self._entries = []

    def __len__(self):
        return len(self._entries)

    def __iter__(self):
        return iter(self._entries)

    def enter(self, line):
        """Enter a line and return the reply."""
        if len(self._entries) >= self._most:
            raise Refused("lines")
        reply = reply_to(self._defined, line, name=self._name)
        self._defined = names_behind(self._defined, line, reply)
        self._entries.append((line, reply))
        return reply

    def names(self):
        """Return a new dict from the defined names to their full texts."""
        return dict(self._defined)

    def log(self):
        """Return the written form of the log."""
        return write_log(self._entries)
