"""Unseen pasts: what outputs tell of a memory that is not known."""

from turnweights.errors import BadView
from turnweights.memories import are_levels, check_memory, memories, memory_after, moved
from turnweights.outputs import outputs_with_all
from turnweights.values import are_integers


def are_alike(device, first, second):
    """Whether two memories are alike for a device; raises BadMemory()."""
    return parting_levels(device, first, second) is None


def parting_levels(device, first, second):
    """A shortest list of levels after which the outputs with two memories differ, or None; raises BadMemory()."""
    check_memory(device.top, first)
    check_memory(device.top, second)
    outputs = outputs_with_all(device)
    for levels in _few_levels(device.top):
        after_first = memory_after(device.top, first, levels)
        after_second = memory_after(device.top, second, levels)
        if outputs[after_first] != outputs[after_second]:
            return levels
    return None


def alike_memories(device):
    """The list of lists of all memories that are alike."""
    outputs = outputs_with_all(device)
    found = {}
    for memory in outputs:
        told = [outputs[memory_after(device.top, memory, levels)] for levels in _few_levels(device.top)]
        found.setdefault(tuple(told), []).append(memory)
    return list(found.values())


def fitting(device, view):
    """The list of the memories that fit any value, if it is a view; raises BadView()."""
    return [first for first, _ in _followed(device, view)]


def now(device, view):
    """The list of the memories that can be there after the levels of a view; raises BadView()."""
    there = {last: True for _, last in _followed(device, view)}
    return [memory for memory in memories(device.top) if memory in there]


def _few_levels(top):
    """The lists of no, one or two levels that can part two memories, shorter ones first."""
    # After the level 0, and after the top, all memories are one.
    levels = range(1, top)
    return [[], *[[level] for level in levels], *[[first, second] for first in levels for second in levels]]


def _followed(device, view):
    """Pairs of each memory that fits a view, in the order of memories, and of the one to which it leads."""
    if not _is_view(device.top, view):
        raise BadView()
    levels, told = view
    outputs = outputs_with_all(device)
    pairs = [(memory, memory) for memory in outputs if outputs[memory] == told[0]]
    for level, output in zip(levels, told[1:]):
        pairs = [(first, moved(last, level)) for first, last in pairs]
        pairs = [(first, last) for first, last in pairs if outputs[last] == output]
    return pairs


def _is_view(top, value):
    """Whether any value is a view."""
    if not isinstance(value, tuple) or len(value) != 2:
        return False
    levels, outputs = value
    return are_levels(top, levels) and are_integers(outputs, len(levels) + 1)
