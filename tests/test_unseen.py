"""Point 26: memories that are alike, and views of a past that is not seen."""

import unittest
from functools import partial
from itertools import product

from by_words import TOPS, drawing, drawn_device, drawn_history, memories_by_words, memory_by_words
from by_words import output_by_words, short_histories
from turnweights import unseen as module
from turnweights.devices import Device, multiplied
from turnweights.errors import BadMemory, BadView
from turnweights.unseen import alike_memories, are_alike, fitting, now, parting_levels
from wrong_values import NO_HISTORIES, NO_INTEGERS, NO_LISTS, NO_MEMORIES, ValuesCase, nested

EXAMPLE = Device.parse("2 0\n1 0 3\n2 0 -3\n2 1 3")
GREAT = 10 ** 999


def in_order(top):
    return sorted(memories_by_words(top), key=lambda memory: (len(memory), memory))


def kinds_by_words(device):
    """For each memory the number of those that are alike: kinds by outputs, parted as long as some level parts them."""
    top = device.top
    after = {memory: [memory_by_words([*memory, level]) for level in range(top + 1)] for memory in in_order(top)}
    kinds = {memory: output_by_words(device, memory) for memory in after}
    while True:
        parted = {memory: (kinds[memory], *[kinds[following] for following in after[memory]]) for memory in after}
        if len(set(parted.values())) == len(set(kinds.values())):
            return kinds
        numbers = {kind: number for number, kind in enumerate(dict.fromkeys(parted.values()))}
        kinds = {memory: numbers[parted[memory]] for memory in after}


def drawn_devices(seed):
    """Devices for which few, some and all memories are alike."""
    draw = drawing(seed)
    for top in TOPS:
        yield Device.parse(f"{top} 3")
        for numbers in (range(-9999, 10000), [0, 1, -1], [0, 0, 0, 0, 1], [0] * 12 + [1, -1, 2], [0, 0, 0, 5, 5, -5]):
            yield drawn_device(draw, top, numbers)


class AlikeTest(unittest.TestCase):
    def test_example(self):
        self.assertEqual([alike_memories(EXAMPLE), parting_levels(EXAMPLE, (1,), (2, 1))],
                         [[[()], [(1,)], [(2,)], [(2, 1)]], []])

    def test_alike_memories(self):
        sizes = set()
        for device in drawn_devices(100):
            kinds = kinds_by_words(device)
            expected = []
            for memory in in_order(device.top):
                if not any(memory in group for group in expected):
                    expected.append([other for other in in_order(device.top) if kinds[other] == kinds[memory]])
            told = alike_memories(device)
            self.assertEqual(told, expected)
            self.assertEqual({type(group) for group in [told, *told]}, {list})
            sizes.update(map(len, told))
        self.assertLessEqual({1, 2, 64}, sizes)

    def test_pairs(self):
        lengths = set()
        draw = drawing(101)
        for device in drawn_devices(102):
            kinds = kinds_by_words(device)
            every = list(product(kinds, repeat=2))
            for first, second in every if device.top < 4 else draw.sample(every, 60):
                lengths.add(self.check_pair(device, first, second, kinds[first] == kinds[second]))
        self.assertLessEqual({None, 0, 1}, lengths)

    def check_pair(self, device, first, second, is_alike):
        self.assertIs(are_alike(device, first, second), is_alike)
        levels = parting_levels(device, first, second)
        if is_alike:
            self.assertIsNone(levels)
            return None
        self.assertIs(type(levels), list)
        self.assertTrue(all(type(level) is int and 0 <= level <= device.top for level in levels))
        self.assertTrue(self.parts(device, first, second, levels))
        for shorter in short_histories(device.top, len(levels) - 1) if levels else []:
            self.assertFalse(self.parts(device, first, second, shorter))
        return len(levels)

    def parts(self, device, first, second, levels):
        return output_by_words(device, [*first, *levels]) != output_by_words(device, [*second, *levels])

    def test_one_memory_twice(self):
        for device in drawn_devices(103):
            for memory in memories_by_words(device.top)[::3]:
                self.assertIs(are_alike(device, memory, memory), True)
                self.assertIsNone(parting_levels(device, memory, memory))

    def test_two_levels_are_needed(self):
        for text, first, second in (("3 0\n1 0 1\n2 0 -1\n2 1 1\n3 0 1\n3 1 -1", (1,), (3,)),
                                    ("4 0\n2 0 -1\n3 0 1\n3 1 -1\n3 2 1\n4 0 1\n4 3 -1", (), (3,))):
            device = Device.parse(text)
            self.assertEqual(self.check_pair(device, first, second, False), 2)
            self.assertEqual(self.check_pair(device, second, first, False), 2)

    def test_new_each_time(self):
        told = alike_memories(EXAMPLE)
        told[0].append((1,))
        told.pop()
        self.assertEqual(alike_memories(EXAMPLE), [[()], [(1,)], [(2,)], [(2, 1)]])
        parting_levels(EXAMPLE, (1,), (2, 1)).append(1)
        self.assertEqual(parting_levels(EXAMPLE, (1,), (2, 1)), [])

    def test_great_numbers(self):
        self.assertEqual(alike_memories(multiplied(EXAMPLE, GREAT)), alike_memories(EXAMPLE))


class ViewTest(unittest.TestCase):
    def check(self, device, levels, outputs):
        fits, there = [], set()
        for memory in in_order(device.top):
            seen = [output_by_words(device, [*memory, *levels[:many]]) for many in range(len(levels) + 1)]
            if seen == outputs:
                fits.append(memory)
                there.add(memory_by_words([*memory, *levels]))
        told = fitting(device, (levels, outputs))
        self.assertEqual(told, fits)
        told_now = now(device, (levels, outputs))
        self.assertEqual(told_now, [memory for memory in in_order(device.top) if memory in there])
        self.assertEqual((type(told), type(told_now)), (list, list))
        return len(fits)

    def test_some_views(self):
        device = Device.parse("3 0\n2 0 1\n2 1 1")
        self.assertEqual(fitting(device, ([], [2])), [(2,), (3,), (3, 2), (3, 1, 2)])
        self.assertEqual(fitting(device, ([1], [2, 1])), [(2,), (3,), (3, 2), (3, 1, 2)])
        self.assertEqual(now(device, ([1], [2, 1])), [(2, 1), (3, 1)])
        self.assertEqual(now(device, ([1, 3], [2, 1, 2])), [(3,)])
        self.assertEqual(now(device, ([1, 2], [2, 1, 2])), [(2,), (3, 1, 2)])
        self.assertEqual(fitting(device, ([1], [2, 2])), [])
        self.assertEqual(now(device, ([1], [2, 2])), [])

    def test_views_that_memories_fit(self):
        draw = drawing(104)
        found = set()
        for device in drawn_devices(105):
            for _ in range(12):
                past = list(draw.choice(memories_by_words(device.top)))
                levels = drawn_history(draw, device.top, 5)
                outputs = [output_by_words(device, past + levels[:many]) for many in range(len(levels) + 1)]
                found.add(self.check(device, levels, outputs))
        self.assertNotIn(0, found)
        self.assertLessEqual({1, 2, 64}, found)

    def test_views_with_one_output_changed(self):
        draw = drawing(106)
        found = set()
        for device in drawn_devices(107):
            for _ in range(6):
                past = list(draw.choice(memories_by_words(device.top)))
                levels = drawn_history(draw, device.top, 4)
                outputs = [output_by_words(device, past + levels[:many]) for many in range(len(levels) + 1)]
                at = draw.randrange(len(outputs))
                found.add(self.check(device, levels, outputs[:at] + [outputs[at] + 1] + outputs[at + 1:]))
        self.assertIn(0, found)

    def test_no_levels(self):
        for device in drawn_devices(108):
            for memory in memories_by_words(device.top)[::5]:
                self.check(device, [], [output_by_words(device, memory)])
            self.check(device, [], [GREAT])

    def test_many_levels(self):
        device = drawn_device(drawing(109), 6)
        levels = [6, 1, 5, 2, 4, 3, 0] * 400
        once = [output_by_words(device, levels[:many + 1]) for many in range(7)]
        self.assertEqual(now(device, (levels, [device.base] + once * 400)), [()])
        self.assertEqual(fitting(device, (levels, [device.base] + once * 400)), [()])
        self.assertEqual(now(device, (levels, [device.base] + once * 399 + once[:-1] + [GREAT])), [])

    def test_new_each_time(self):
        fitting(EXAMPLE, ([], [0])).clear()
        now(EXAMPLE, ([], [0])).clear()
        self.assertEqual((fitting(EXAMPLE, ([], [0])), now(EXAMPLE, ([], [0]))), ([(), (2, 1)], [(), (2, 1)]))


# Values that are no views for the top 3.
NO_VIEWS = NO_LISTS + (
    [], [[1], [0, 0]], [[], [0]], ([],), ([1],), ([1], [0, 0], []), ([], [0], None), ([], [0], [0]), (([], [0]),),
    ([], []), ([], [0, 0]), ([1], [0]), ([1], []), ([1], [0, 0, 0]), ([1, 2, 3], [0, 0, 0]), ([1, 2], [0, 0, 0, 0]),
    ([], 0), ([], (0,)), ((), [0]), ((1,), [0, 0]), (1, [0, 0]), (None, [0]), ([], None), ({}, [0]), ([], {0: 0}),
    ("", [0]), ("1", [0, 0]), ([], "0"), ([0], []), ([0, 0], [1]), {0: [], 1: [0]}, nested(50), (nested(49), [0, 0]),
    ([1], nested(49))) + tuple(
    ([], [value]) for value in NO_INTEGERS) + tuple(
    ([1, 2], [0, value, 0]) for value in NO_INTEGERS) + tuple(
    (value, [0] * (len(value) + 1 if type(value) in (list, tuple, str) else 1)) for value, _ in NO_HISTORIES)


class WrongValuesTest(ValuesCase):
    device = Device.parse("3 0\n2 1 5")

    def test_memories(self):
        for value in NO_MEMORIES:
            for function in (are_alike, parting_levels):
                self.check_error(BadMemory, {}, partial(function, self.device), value, (3, 1))
                self.check_error(BadMemory, {}, partial(function, self.device), (3, 1), value)
                self.check_error(BadMemory, {}, partial(function, self.device), value, value)

    def test_views(self):
        for value in NO_VIEWS:
            for function in (fitting, now):
                self.check_error(BadView, {}, partial(function, self.device), value)

    def test_other_tops(self):
        for top in TOPS:
            device = Device.parse(f"{top} 5")
            self.check_told([(top,)], partial(now, device), ([0, top], [5, 5, 5]))
            self.check_told(True, partial(are_alike, device), (top,), ())
            for function in (fitting, now):
                self.check_error(BadView, {}, partial(function, device), ([0, top + 1], [5, 5, 5]))
            for function in (are_alike, parting_levels):
                self.check_error(BadMemory, {}, partial(function, device), (top + 1,), ())

    def test_right_views_stay(self):
        self.check_told([(2,), (3,), (3, 2), (3, 1, 2)], partial(fitting, self.device), ([1, 2], [5, 0, 5]))
        self.check_told([(2,), (3, 1, 2)], partial(now, self.device), ([1, 2], [5, 0, 5]))


class InterfaceTest(unittest.TestCase):
    def test_by_name(self):
        self.assertIs(are_alike(device=EXAMPLE, first=(1,), second=(2, 1)), False)
        self.assertEqual(parting_levels(device=EXAMPLE, first=(1,), second=(2, 1)), [])
        self.assertEqual(len(alike_memories(device=EXAMPLE)), 4)
        self.assertEqual(fitting(device=EXAMPLE, view=([2], [0, 3])), [(), (2, 1)])
        self.assertEqual(now(device=EXAMPLE, view=([2], [0, 3])), [(2,)])

    def test_defined_in_their_file(self):
        for function in (are_alike, parting_levels, alike_memories, fitting, now):
            self.assertEqual(function.__module__, "turnweights.unseen")
            self.assertIs(getattr(module, function.__name__), function)


if __name__ == "__main__":
    unittest.main()
