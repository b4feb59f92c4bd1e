"""Point 25, and what point 31 says of distances: ways to memories, to outputs, and with the least work."""

import unittest
from functools import partial
from itertools import product

from by_words import TOPS, drawing, drawn_device, histories, made_device, memories_by_words, memory_by_words
from by_words import output_by_words, short_histories, steps_by_words, work_by_words
from turnweights import ways as module
from turnweights.devices import Device, multiplied
from turnweights.errors import BadMemory
from turnweights.ways import cheapest_way, distance, least_work, outputs_had, shortest_way, way_to_output
from wrong_values import NO_MEMORIES, ValuesCase

EXAMPLE = Device.parse("2 10\n1 0 1\n2 0 2\n2 1 4")
GREAT = 10 ** 999


def distances_by_words(top, first):
    """How many levels each memory is away from the first one: a search level by level."""
    found = {first: 0}
    last = [first]
    while last:
        after = {memory_by_words([*memory, level]) for memory in last for level in range(top + 1)}
        last = sorted(after - set(found))
        found.update({memory: max(found.values()) + 1 for memory in last})
    return found


def some_pairs(draw, top):
    every = list(product(memories_by_words(top), repeat=2))
    return every if top < 5 else draw.sample(every, 150)


class WaysCase(unittest.TestCase):
    def check_levels(self, top, levels):
        self.assertIs(type(levels), list)
        self.assertTrue(all(type(level) is int and 0 <= level <= top for level in levels))


class DistanceTest(WaysCase):
    def test_example(self):
        self.assertEqual([distance(3, (3, 1, 2), (3, 2)), shortest_way(3, (3, 1, 2), (3, 2))], [2, [3, 2]])

    def test_all_pairs(self):
        draw = drawing(90)
        for top in TOPS:
            expected = {first: distances_by_words(top, first) for first in memories_by_words(top)}
            for first, second in some_pairs(draw, top):
                told = distance(top, first, second)
                self.assertIs(type(told), int)
                self.assertEqual(told, expected[first][second])
                self.assertLessEqual(told, len(second) + 1)
                way = shortest_way(top, first, second)
                self.check_levels(top, way)
                self.assertEqual(len(way), told)
                self.assertEqual(memory_by_words([*first, *way]), second)

    def test_to_the_same_memory(self):
        for top in TOPS:
            for memory in memories_by_words(top):
                self.assertEqual((distance(top, memory, memory), shortest_way(top, memory, memory)), (0, []))

    def test_new_each_time(self):
        shortest_way(3, (3, 1, 2), (3, 2)).clear()
        self.assertEqual(shortest_way(3, (3, 1, 2), (3, 2)), [3, 2])


class OutputsTest(WaysCase):
    def test_example(self):
        self.assertEqual(outputs_had(EXAMPLE), {10: [0], 11: [1], 13: [1], 17: [2]})

    def test_outputs_had(self):
        draw = drawing(91)
        for top in TOPS:
            for numbers in (range(-9999, 10000), [0, 0, 1], [0, 1, -1], [0]):
                device = drawn_device(draw, top, numbers)
                expected = {}
                for memory in memories_by_words(top):
                    expected.setdefault(output_by_words(device, memory), set()).add(memory[-1] if memory else 0)
                told = outputs_had(device)
                self.assertEqual(told, {output: sorted(levels) for output, levels in expected.items()})
                self.assertEqual({type(levels) for levels in told.values()}, {list})

    def test_outputs_had_after_histories(self):
        for top in (1, 2, 3):
            device = drawn_device(drawing(92), top, [0, 1, -1])
            found = {}
            for history in histories(top):
                found.setdefault(output_by_words(device, history), set()).add((history or [0])[-1])
            self.assertEqual({output: set(levels) for output, levels in outputs_had(device).items()}, found)

    def test_way_to_output(self):
        draw = drawing(93)
        for top in TOPS:
            device = drawn_device(draw, top, [0, 0, 1, 2])
            outputs = {memory: output_by_words(device, memory) for memory in memories_by_words(top)}
            for first in memories_by_words(top) if top < 5 else draw.sample(memories_by_words(top), 12):
                distances = distances_by_words(top, first)
                for output in [*sorted(set(outputs.values()))[:12], min(outputs.values()) - 1, GREAT]:
                    way = way_to_output(device, first, output)
                    there = [distances[memory] for memory in outputs if outputs[memory] == output]
                    if not there:
                        self.assertIsNone(way)
                        continue
                    self.check_levels(top, way)
                    self.assertEqual(len(way), min(there))
                    self.assertEqual(output_by_words(device, [*first, *way]), output)

    def test_an_output_that_is_there(self):
        for memory in memories_by_words(2):
            self.assertEqual(way_to_output(EXAMPLE, memory, output_by_words(EXAMPLE, memory)), [])
        self.assertIsNone(way_to_output(EXAMPLE, (), 12))
        self.assertEqual(way_to_output(EXAMPLE, (), 13), [2, 1])
        self.assertEqual(way_to_output(EXAMPLE, (2,), 13), [1])
        self.assertEqual(way_to_output(EXAMPLE, (2,), 11), [0, 1])

    def test_new_each_time(self):
        told = outputs_had(EXAMPLE)
        told[10].append(9)
        told.pop(17)
        self.assertEqual(outputs_had(EXAMPLE), {10: [0], 11: [1], 13: [1], 17: [2]})
        way_to_output(EXAMPLE, (2,), 11).clear()
        self.assertEqual(way_to_output(EXAMPLE, (2,), 11), [0, 1])

    def test_great_numbers(self):
        device = multiplied(EXAMPLE, GREAT)
        self.assertEqual(outputs_had(device), {10 * GREAT: [0], 11 * GREAT: [1], 13 * GREAT: [1], 17 * GREAT: [2]})
        self.assertEqual(way_to_output(device, (), 13 * GREAT), [2, 1])


def least_works(device, first, most):
    """For each number of levels, the least works of ways of just so many levels to each memory."""
    steps = steps_by_words(device)
    found = [{first: 0}]
    for _ in range(most):
        after = {}
        for memory, work in found[-1].items():
            for following, more in steps[memory]:
                after[following] = min(after.get(following, work + more), work + more)
        found.append(after)
    return found


class LeastWorkTest(WaysCase):
    def check(self, device, first, seconds, most=8):
        works = least_works(device, first, most)
        for many in range(most + 1):
            for second in seconds:
                expected = min([works[length][second] for length in range(many + 1) if second in works[length]],
                               default=None)
                self.assertEqual(least_work(device, first, second, many), expected)
                way = cheapest_way(device, first, second, many)
                if expected is None:
                    self.assertIsNone(way)
                    continue
                self.check_levels(device.top, way)
                self.assertLessEqual(len(way), many)
                self.assertEqual(memory_by_words([*first, *way]), second)
                self.assertEqual(work_by_words(device, list(first), way), expected)

    def test_all_pairs_of_small_tops(self):
        draw = drawing(94)
        for top in (1, 2, 3):
            for numbers in (range(-9, 10), range(9), range(-9, 3)):
                device = drawn_device(draw, top, numbers)
                for first in memories_by_words(top):
                    self.check(device, first, memories_by_words(top))

    def test_drawn_pairs(self):
        draw = drawing(95)
        for top in (4, 5, 6):
            for numbers in (range(-9, 10), range(-3, 9)):
                device = drawn_device(draw, top, numbers)
                self.check(device, draw.choice(memories_by_words(top)), draw.sample(memories_by_words(top), 4))

    def test_every_list_of_levels(self):
        device = Device.parse("2 0\n1 0 -3\n2 0 1\n2 1 -1")
        for first, second in product(memories_by_words(2), repeat=2):
            for many in range(6):
                works = [work_by_words(device, list(first), levels) for levels in short_histories(2, many)
                         if memory_by_words([*first, *levels]) == second]
                self.assertEqual(least_work(device, first, second, many), min(works, default=None))

    def test_some_ways(self):
        self.assertEqual([least_work(EXAMPLE, (), (2,), many) for many in (0, 1, 8)], [None, 13, 13])
        self.assertEqual([cheapest_way(EXAMPLE, (), (2,), many) for many in (0, 1)], [None, [2]])
        self.assertEqual([least_work(EXAMPLE, (1,), (1,), 0), cheapest_way(EXAMPLE, (1,), (1,), 0)], [0, []])
        giving = Device.parse("1 0\n1 0 -3")
        self.assertEqual([least_work(giving, (), (), many) for many in range(9)], [0, 0, -3, -3, -6, -6, -9, -9, -12])
        self.assertEqual(cheapest_way(giving, (), (), 6), [1, 0, 1, 0, 1, 0])

    def test_longer_ways(self):
        giving = Device.parse("1 0\n1 0 -3")
        self.assertEqual([least_work(giving, (), (1,), 21), len(cheapest_way(giving, (), (1,), 21))], [-33, 21])

    def test_new_each_time(self):
        cheapest_way(EXAMPLE, (), (2,), 1).clear()
        self.assertEqual(cheapest_way(EXAMPLE, (), (2,), 1), [2])

    def test_great_numbers(self):
        self.assertEqual(least_work(multiplied(EXAMPLE, GREAT), (), (2,), 5), 13 * GREAT)


class WrongValuesTest(ValuesCase):
    device = Device.parse("3 0\n2 1 5")

    def test_memories(self):
        for value in NO_MEMORIES:
            for function in (distance, shortest_way):
                self.check_error(BadMemory, {}, partial(function, 3), value, (3, 1))
                self.check_error(BadMemory, {}, partial(function, 3), (3, 1), value)
            for function in (least_work, cheapest_way):
                for many in (0, 1, 8):
                    self.check_error(BadMemory, {}, partial(function, self.device), value, (3, 1), many)
                    self.check_error(BadMemory, {}, partial(function, self.device), (3, 1), value, many)
            for output in (0, 77):
                self.check_error(BadMemory, {}, partial(way_to_output, self.device), value, output)

    def test_other_tops(self):
        for top in TOPS:
            device = made_device(top, 0, {(top, 0): 5})
            self.check_told(1, partial(distance, top), (), (top,))
            self.check_told(5 * top, partial(least_work, device), (), (top,), 2)
            self.check_told([top], partial(way_to_output, device), (), 5)
            for first, second in (((), (top + 1,)), ((top + 1,), ())):
                self.check_error(BadMemory, {}, partial(distance, top), first, second)
                self.check_error(BadMemory, {}, partial(shortest_way, top), first, second)
                self.check_error(BadMemory, {}, partial(least_work, device), first, second, 2)
                self.check_error(BadMemory, {}, partial(cheapest_way, device), first, second, 2)
            self.check_error(BadMemory, {}, partial(way_to_output, device), (top + 1,), 5)


class InterfaceTest(unittest.TestCase):
    def test_by_name(self):
        self.assertEqual(distance(top=3, first=(3, 1, 2), second=(3, 2)), 2)
        self.assertEqual(shortest_way(top=3, first=(3, 1, 2), second=(3, 2)), [3, 2])
        self.assertEqual(outputs_had(device=EXAMPLE)[10], [0])
        self.assertEqual(way_to_output(device=EXAMPLE, memory=(), output=13), [2, 1])
        self.assertEqual(least_work(device=EXAMPLE, first=(), second=(2,), many=1), 13)
        self.assertEqual(cheapest_way(device=EXAMPLE, first=(), second=(2,), many=1), [2])

    def test_defined_in_their_file(self):
        for function in (distance, shortest_way, outputs_had, way_to_output, least_work, cheapest_way):
            self.assertEqual(function.__module__, "turnweights.ways")
            self.assertIs(getattr(module, function.__name__), function)


if __name__ == "__main__":
    unittest.main()
