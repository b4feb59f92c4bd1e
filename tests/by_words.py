"""The words of the document, followed step by step, for tests to compare the program with."""

from itertools import product

TOPS = (1, 2, 3, 4, 5, 6)


def all_switches(top):
    return [(up, down) for up in range(top + 1) for down in range(top + 1) if down < up]


def on_after(top, history):
    """Point 6: the set of the switches that are on after a history."""
    on = set()
    for level in history:
        for up, down in all_switches(top):
            if level >= up:
                on.add((up, down))
            elif level <= down:
                on.discard((up, down))
    return frozenset(on)


def memory_by_words(history):
    """Point 8: the greatest level after the last 0, the least one after the last greatest one, and so on."""
    left = list(history)
    while 0 in left:
        left = left[left.index(0) + 1:]
    entries = []
    while left:
        entry = max(left) if len(entries) % 2 == 0 else min(left)
        entries.append(entry)
        while entry in left:
            left = left[left.index(entry) + 1:]
    return tuple(entries)


def memories_by_words(top):
    """Point 8: one memory for each set of levels from 1 on."""
    found = []
    for kept in product((False, True), repeat=top):
        levels = [level for level in range(1, top + 1) if kept[level - 1]]
        entries = []
        while levels:
            entry = max(levels) if len(entries) % 2 == 0 else min(levels)
            entries.append(entry)
            levels.remove(entry)
        found.append(tuple(entries))
    return found


def short_histories(top, many):
    """All histories of at most so many levels."""
    return [list(levels) for length in range(many + 1) for levels in product(range(top + 1), repeat=length)]


def long_histories(top):
    """Some histories of fifty levels that go up and down, stay, and jump."""
    return [[(step * step * first + step * second + step // 3) % (top + 1) for step in range(50)]
            for first in range(7) for second in range(5)]


# For each top, all histories up to the length that keeps the tests quick.
LENGTHS = {1: 8, 2: 6, 3: 5, 4: 4, 5: 4, 6: 4}


def histories(top):
    return short_histories(top, LENGTHS[top]) + long_histories(top)


# Values of all kinds of point 3 that are neither lists, nor tuples, nor strings.
OTHER_VALUES = (None, True, False, 0, 1, -1, 10 ** 999, {}, {0: 1}, {(1, 0): 5})
