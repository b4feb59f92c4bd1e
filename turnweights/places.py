"""Places of memories, and crossings of their joins and meetings."""

from turnweights.bars import totals_with
from turnweights.memories import is_memory, joined, memories, met, switches, switches_on
from turnweights.values import is_integer


def place_of(top, memory):
    """The pair of the numbers of outer and of inner switches that are on; raises BadMemory()."""
    on = switches_on(top, memory)
    outer = outer_switches(top)
    many = len([switch for switch in on if switch in outer])
    return many, len(on) - many


def crossings(top, histories, numbers):
    """Crossings for right histories and as many integers, or None."""
    left = totals_with(top, histories, numbers)
    found = []
    # Longer memories first: a crossing takes one away, and brings in none that is as long.
    for memory in reversed(memories(top)):
        if len(memory) > 2 and left.get(memory, 0) != 0:
            crossing = _crossing_with(memory, left[memory])
            found.append(crossing)
            left = _left(top, left, [crossing])
    # Just one device has given outputs after all histories of at most two levels: if the sums are 0, nothing is left.
    return None if any(list(left.values())) else found


def are_crossings(top, histories, numbers, crossings):
    """Whether any value is crossings for right histories and as many integers."""
    if not isinstance(crossings, list) or not all([_is_crossing(top, entry) for entry in crossings]):
        return False
    left = _left(top, totals_with(top, histories, numbers), crossings)
    return not any(list(left.values()))


def outer_switches(top):
    """The outer switches, in the order in which they go on."""
    return [(up, 0) for up in range(1, top + 1)] + [(top, down) for down in range(1, top)]


def inner_switches(top):
    """The inner switches, in the order in which they go on."""
    outer = outer_switches(top)
    return [switch for switch in switches(top) if switch not in outer]


def _crossing_with(memory, number):
    """A crossing with this sum at a memory of three or more entries, and else with sums at shorter ones only."""
    if len(memory) % 2 == 0:
        # Joined with its last high alone, it loses its last low.
        return memory, memory[-2:-1], number
    # It is the join of what is ahead of its last high, and of this high alone.
    return memory[:-1], memory[-1:], -number


def _left(top, totals, entries):
    """What is left of the sums for memories, less those of crossings."""
    left = {memory: totals[memory] for memory in totals}
    for first, second, number in entries:
        for memory in (first, second):
            left[memory] = left.get(memory, 0) - number
        for memory in (joined(top, first, second), met(top, first, second)):
            left[memory] = left.get(memory, 0) + number
    return left


def _is_crossing(top, value):
    """Whether any value is a tuple of two memories and an integer."""
    if not isinstance(value, tuple) or len(value) != 3:
        return False
    first, second, number = value
    return is_memory(top, first) and is_memory(top, second) and is_integer(number)
