"""Tapes: lists of levels that do the same, and lists of levels that are changed at any place."""

from turnweights.errors import BadPlace
from turnweights.marks import Marks
from turnweights.memories import check_levels, check_memory, memories, memory_after
from turnweights.outputs import output_with
from turnweights.reaching import reached
from turnweights.values import is_integer
from turnweights.work import steps


class Tape:
    """A device, and levels that follow a memory."""

    def __init__(self, device, memory):
        check_memory(device.top, memory)
        self._device = device
        self._levels = []
        # The memory ahead of each level, and behind all of them.
        self._memories = [memory]
        # The work of each level.
        self._works = []
        # For each memory that was met so far, what each level leads to; there are only a few memories.
        self._steps = {}
        self._marks = Marks()

    def levels(self):
        """A new list of the levels."""
        return list(self._levels)

    def put_in(self, place, levels):
        """Puts levels in ahead of a place; raises BadLevels(index), then BadPlace()."""
        check_levels(self._device.top, levels)
        self._check_stretch(place, 0)
        self._change(place, 0, levels)

    def take_out(self, place, many):
        """Takes out so many levels from a place on; raises BadPlace()."""
        self._check_stretch(place, many)
        self._change(place, many, [])

    def put_over(self, place, levels):
        """Puts levels in place of as many from a place on; raises BadLevels(index), then BadPlace()."""
        check_levels(self._device.top, levels)
        self._check_stretch(place, len(levels))
        self._change(place, len(levels), levels)

    def memory_at(self, place):
        """The memory ahead of the level at a place; raises BadPlace()."""
        self._check_stretch(place, 0)
        return self._memories[place]

    def output_at(self, place):
        """The output ahead of the level at a place; raises BadPlace()."""
        return output_with(self._device, self.memory_at(place))

    def work_between(self, first, second):
        """The work of the levels from a place to another one; raises BadPlace()."""
        self._check_stretch(first, 0)
        self._check_stretch(second, 0)
        if second < first:
            raise BadPlace()
        return sum(self._works[first:second])

    def mark(self):
        """Sets a mark; returns its number."""
        return self._marks.keep(self.levels())

    def back(self, number):
        """Goes back to a mark; raises UnknownMark(number)."""
        self._change(0, len(self._levels), self._marks.kept(number))

    def _check_stretch(self, place, many):
        """Raises BadPlace() if any values are no place and no number of levels that stand from it on."""
        if not is_integer(place) or not is_integer(many):
            raise BadPlace()
        if not 0 <= place <= len(self._levels) or not 0 <= many <= len(self._levels) - place:
            raise BadPlace()

    def _change(self, place, many, levels):
        """Puts right levels in place of so many levels from a right place on."""
        self._levels[place:place + many] = levels
        self._works[place:place + many] = [0 for _ in levels]
        # None stands for the memory behind a level that is new here.
        self._memories[place + 1:place + many + 1] = [None for _ in levels]
        for at in range(place, len(self._levels)):
            before = self._memories[at + 1]
            self._memories[at + 1], self._works[at] = self._step(self._memories[at], self._levels[at])
            # Behind a memory that stays, all stays.
            if self._memories[at + 1] == before:
                return

    def _step(self, memory, level):
        """The memory after a level, and its work."""
        if memory not in self._steps:
            self._steps[memory] = steps(self._device, memory)
        return self._steps[memory][level]


def effect(top, levels):
    """The shortest list of levels that does the same; raises BadLevels(index)."""
    check_levels(top, levels)
    turns = _turns(levels)
    # At 0 all switches go off, and at the top all go on, whatever was ahead.
    return turns[1:] if len(turns) > 1 and turns[1] in (0, top) else turns


def effects(top):
    """The list of all effects, shorter ones first, those of one length in ascending order."""

    def nexts(before):
        return [tuple(effect(top, [*before, level])) for level in range(top + 1)]

    found = [list(one) for one in reached((), nexts)]
    return sorted(found, key=lambda one: (len(one), one))


def parting_memory(top, first, second):
    """A memory from which two lists of levels lead to different ones, or None; raises BadLevels(index)."""
    first_effect = effect(top, first)
    second_effect = effect(top, second)
    for memory in memories(top):
        if memory_after(top, memory, first_effect) != memory_after(top, memory, second_effect):
            return memory
    return None


def _turns(levels):
    """The last greatest or the last least level, whichever comes first, then highs that fall and lows that rise."""
    backwards = []
    for level in reversed(levels):
        if backwards and min(backwards) <= level <= max(backwards):
            # What it does to a switch, some later level does, or undoes.
            continue
        # A high that comes ahead of a lower high, no low being between them, does all that the lower one does.
        if len(backwards) > 1 and (level > backwards[-1]) == (backwards[-1] > backwards[-2]):
            backwards.pop()
        backwards.append(level)
    return backwards[::-1]
