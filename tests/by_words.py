"""The words of the document, followed step by step, for tests to compare the program with."""

import random
from functools import lru_cache
from itertools import product

from turnweights.devices import Device

TOPS = (1, 2, 3, 4, 5, 6)


def all_switches(top):
    return [(up, down) for up in range(top + 1) for down in range(top + 1) if down < up]


def on_after(top, history):
    """Point 6: the set of the switches that are on after a history."""
    return on_after_levels(top, tuple(history))


@lru_cache(maxsize=20000)
def on_after_levels(top, history):
    on = set()
    for level in history:
        for up, down in all_switches(top):
            if level >= up:
                on.add((up, down))
            elif level <= down:
                on.discard((up, down))
    return frozenset(on)


def output_by_words(device, history):
    """Point 6: the base and the weights of the switches that are on."""
    on = on_after(device.top, history)
    return device.base + sum(weight for switch, weight in device.weights().items() if switch in on)


def sums_by_words(top, histories, numbers):
    """Point 13: the sum of all numbers, and for each switch of those after whose histories it is on."""
    return [sum(numbers)] + [
        sum(number for history, number in zip(histories, numbers) if switch in on_after(top, history))
        for switch in all_switches(top)]


def are_bars_by_words(top, records, numbers):
    """Point 13, for as many integers as records."""
    histories = [history for history, _ in records]
    with_outputs = sum(number * output for number, (_, output) in zip(numbers, records))
    return set(sums_by_words(top, histories, numbers)) == {0} and with_outputs != 0


def are_divided_by_words(top, records, number, numbers):
    """Point 14, for an integer from 2 on and as many integers as records."""
    histories = [history for history, _ in records]
    with_outputs = sum(each * output for each, (_, output) in zip(numbers, records))
    return all(total % number == 0 for total in sums_by_words(top, histories, numbers)) and with_outputs % number != 0


def is_fit_by_words(top, records, bottom, base, weights):
    """Point 15, for integers of the right size, and a dict from switches to integers that are not 0."""
    return all(base + sum(weights[switch] for switch in weights if switch in on_after(top, history)) == bottom * output
               for history, output in records)


def memory_by_words(history):
    """Point 8: the greatest level after the last 0, the least one after the last greatest one, and so on."""
    left = list(history)
    while 0 in left:
        left = left[left.index(0) + 1:]
    entries = []
    while left:
        entry = max(left) if len(entries) % 2 == 0 else min(left)
        entries.append(entry)
        while entry in left:
            left = left[left.index(entry) + 1:]
    return tuple(entries)


def memories_by_words(top):
    """Point 8: one memory for each set of levels from 1 on."""
    found = []
    for kept in product((False, True), repeat=top):
        levels = [level for level in range(1, top + 1) if kept[level - 1]]
        entries = []
        while levels:
            entry = max(levels) if len(entries) % 2 == 0 else min(levels)
            entries.append(entry)
            levels.remove(entry)
        found.append(tuple(entries))
    return found


def short_histories(top, many):
    """All histories of at most so many levels."""
    return [list(levels) for length in range(many + 1) for levels in product(range(top + 1), repeat=length)]


def long_histories(top):
    """Some histories of fifty levels that go up and down, stay, and jump."""
    return [[(step * step * first + step * second + step // 3) % (top + 1) for step in range(50)]
            for first in range(7) for second in range(5)]


def work_by_words(device, history, levels):
    """Point 20: what is paid at levels that follow a history, less what comes back."""
    weights = device.weights()
    work = 0
    for many in range(len(levels)):
        before = on_after(device.top, history + levels[:many])
        after = on_after(device.top, history + levels[:many + 1])
        work += sum(weights.get(switch, 0) * switch[0] for switch in after - before)
        work -= sum(weights.get(switch, 0) * switch[1] for switch in before - after)
    return work


def steps_by_words(device):
    """For each memory, and for each level, the memory after it and the work of it."""
    return {memory: [(memory_by_words([*memory, level]), work_by_words(device, list(memory), [level]))
                     for level in range(device.top + 1)] for memory in memories_by_words(device.top)}


# For each top, all histories up to the length that keeps the tests quick.
LENGTHS = {1: 8, 2: 6, 3: 5, 4: 4, 5: 4, 6: 4}


def histories(top):
    return short_histories(top, LENGTHS[top]) + long_histories(top)


def drawing(seed):
    """What draws the same numbers each time."""
    return random.Random(seed)


def drawn_history(draw, top, most):
    return [draw.randint(0, top) for _ in range(draw.randint(0, most))]


def made_device(top, base, weights):
    rows = [f"{up} {down} {weights[up, down]}" for up, down in sorted(weights) if weights[up, down]]
    return Device.parse("\n".join([f"{top} {base}"] + rows))


def drawn_device(draw, top, numbers=range(-9999, 10000)):
    """A device whose base and weights are some of these numbers; some of the weights are 0."""
    weights = {switch: draw.choice(numbers) for switch in all_switches(top) if draw.randrange(4)}
    return made_device(top, draw.choice(numbers), weights)


# Values of all kinds of point 3 that are neither lists, nor tuples, nor strings.
OTHER_VALUES = (None, True, False, 0, 1, -1, 10 ** 999, {}, {0: 1}, {(1, 0): 5})
