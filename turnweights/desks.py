"""Desks: wide records that are put on and taken off, and torn records."""

from turnweights.errors import BadPlace, BadRecords
from turnweights.marks import Marks
from turnweights.memories import check_levels, memories
from turnweights.ranges import Ranging
from turnweights.values import is_integer
from turnweights.wide import are_bounds, check_wide, device_keeping, is_full, wide_bars, wide_fit


class Desk:
    """A top, whether all fits are rising ones, and the wide records that are on it."""

    def __init__(self, top, rising):
        self._top = top
        self._rising = rising
        # The records by their numbers, in the order in which they were put on.
        self._records = {}
        self._many = 0
        self._marks = Marks()

    def records(self):
        """A new list of the tuples (number, history, low, high)."""
        return [(number, list(history), low, high) for number, (history, low, high) in self._records.items()]

    def put(self, history, low, high):
        """Puts a record on; returns its number; raises BadLevels(index), then BadRecords(number)."""
        check_levels(self._top, history)
        number = self._many
        if not are_bounds(low, high) or is_full(self._records):
            raise BadRecords(number)
        self._records[number] = (list(history), low, high)
        self._many += 1
        return number

    def take_out(self, number):
        """Takes a record off; raises BadPlace()."""
        if not is_integer(number) or number not in self._records:
            raise BadPlace()
        del self._records[number]

    def fit(self):
        """A wide fit, or a rising fit, or None."""
        return wide_fit(self._top, self._wide(), self._rising)

    def bars(self):
        """Wide bars, or rising bars, or None."""
        return wide_bars(self._top, self._wide(), self._rising)

    def torn(self):
        """The ascending list of the numbers of torn records, or None."""
        indexes = torn_records(self._top, self._wide(), self._rising)
        if indexes is None:
            return None
        numbers = list(self._records)
        return [numbers[index] for index in indexes]

    def span(self, history):
        """The range of a history; raises BadLevels(index), then NoFit()."""
        check_levels(self._top, history)
        return self._ranging().span(history)

    def open_memories(self):
        """The list of the memories with an open side, as in memories; raises NoFit()."""
        spans = self._spans()
        return [memory for memory in spans if None in spans[memory]]

    def widest(self):
        """A memory with the greatest difference of its range, or None if some side is open; raises NoFit()."""
        spans = self._spans()
        if any([None in spans[memory] for memory in spans]):
            return None
        return max(spans, key=lambda memory: spans[memory][1] - spans[memory][0])

    def mark(self):
        """Sets a mark; returns its number."""
        return self._marks.keep((_copied(self._records), self._many))

    def back(self, number):
        """Goes back to a mark; raises UnknownMark(number)."""
        records, self._many = self._marks.kept(number)
        self._records = _copied(records)

    def _wide(self):
        """The wide records."""
        return [self._records[number] for number in self._records]

    def _ranging(self):
        """What the records tell of outputs; raises NoFit()."""
        return Ranging(self._top, self._wide(), self._rising)

    def _spans(self):
        """A dict from all memories to the ranges of them as histories; raises NoFit()."""
        ranging = self._ranging()
        return {memory: ranging.span(list(memory)) for memory in memories(self._top)}


def torn_records(top, records, rising):
    """The ascending list of the indexes of torn records, or None; raises BadRecords(index)."""
    check_wide(top, records)
    if device_keeping(top, records, rising) is not None:
        return None
    torn = list(range(len(records)))
    for index in range(len(records)):
        others = [other for other in torn if other != index]
        # Without what is left out here, the others that stay are needed all the more.
        if device_keeping(top, [records[other] for other in others], rising) is None:
            torn = others
    return torn


def _copied(records):
    """A new dict of the records by their numbers."""
    return {number: records[number] for number in records}
