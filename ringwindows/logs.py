"""Logs, which keep the last texts that were noted."""

from ringwindows.bounds import LOGGED
from ringwindows.errors import BadNote

MAX_NOTE = 100


class Log:
    """Keeps the last texts, and how many were noted in all."""

    def __init__(self):
        self.noted = 0
        self.kept = ()

    @property
    def lines(self):
        """The tuple of the last texts."""
        return self.kept

    def note(self, text):
        """Adds a text, and returns how many were added in all."""
        if not isinstance(text, str) or len(text) > MAX_NOTE:
            raise BadNote(text)
        self.kept = (self.kept + (text,))[-LOGGED:]
        self.noted += 1
        return self.noted
