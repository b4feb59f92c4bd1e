"""Marks: what was, to go back to."""

from turnweights.errors import UnknownMark
from turnweights.values import is_integer


class Marks:
    """States under the numbers of marks. Nobody changes a state that is kept here."""

    def __init__(self):
        self._states = []

    def keep(self, state):
        """Sets a mark; returns its number."""
        self._states.append(state)
        return len(self._states) - 1

    def kept(self, number):
        """The state of a mark; later marks end; raises UnknownMark(number) if any value is none of a mark."""
        if not is_integer(number) or not 0 <= number < len(self._states):
            raise UnknownMark(number)
        del self._states[number + 1:]
        return self._states[number]
