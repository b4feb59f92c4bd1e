"""Points 20 to 24, and what point 31 says of works and shares."""

import unittest
from fractions import Fraction
from functools import partial

from by_words import TOPS, all_switches, drawing, drawn_device, drawn_history, made_device, memories_by_words
from by_words import memory_by_words, on_after, short_histories, steps_by_words, work_by_words
from turnweights import work as module
from turnweights.devices import Device, added, multiplied
from turnweights.errors import BadLevels, BadMemory
from turnweights.memories import memories
from turnweights.work import are_numbers, closed_loops, giving_loop, least_share, loop_work, potentials, share_loop
from turnweights.work import share_numbers, work_at
from wrong_values import NO_HISTORIES, NO_INTEGERS, NO_LISTS, NO_MEMORIES, ValuesCase, nested

EXAMPLE = Device.parse("2 10\n1 0 1\n2 0 2\n2 1 4")
GREAT = 10 ** 999
# Weights below 0, but no loop that gives work away.
KEEPING = ("2 0\n1 0 1\n2 0 -1\n2 1 1", "3 5\n1 0 2\n2 0 -2\n2 1 2\n3 0 1\n3 2 1", "3 0\n1 0 3\n2 1 3\n3 0 -3\n3 2 3",
           "4 9\n1 0 9\n2 1 9\n3 1 -1\n3 2 9\n4 0 -2\n4 3 9", "6 1\n1 0 6\n2 1 6\n3 2 6\n4 3 6\n5 4 6\n6 0 -6\n6 5 6")


def small_loops(top):
    return [(low, high) for low in range(top + 1) for high in range(top + 1) if low < high]


def loop_by_words(device, low, high):
    weights = device.weights()
    return sum(weights[up, down] * (up - down) for up, down in weights if low <= down and up <= high)


def least_by_words(device):
    """Point 31: the least one of 0 and the halves of the works of all small loops."""
    return min([Fraction(0)] + [Fraction(loop_by_words(device, *loop), 2) for loop in small_loops(device.top)])


def times_on(top, history):
    """For each switch, how often it goes on."""
    found = {switch: 0 for switch in all_switches(top)}
    for many in range(len(history)):
        for switch in on_after(top, history[:many + 1]) - on_after(top, history[:many]):
            found[switch] += 1
    return found


def are_numbers_by_words(device, share, numbers):
    """Point 24, for a dict from all memories to integers."""
    return all(share[1] * work - share[0] >= numbers[after] - numbers[memory]
               for memory, steps in steps_by_words(device).items() for after, work in steps)


def drawn_devices(seed, many):
    draw = drawing(seed)
    for top in TOPS:
        yield Device.parse(f"{top} {top - 3}")
        for _ in range(many):
            yield drawn_device(draw, top)
            yield drawn_device(draw, top, range(-3, 9))
            yield drawn_device(draw, top, range(10))
            yield drawn_device(draw, top, [0, 0, 1, 1, 1, -1])
    for text in KEEPING:
        yield Device.parse(text)


class WorkTest(unittest.TestCase):
    def test_examples(self):
        self.assertEqual([work_at(EXAMPLE, (), [2, 1, 2, 0]), loop_work(EXAMPLE, 1, 2), loop_work(EXAMPLE, 0, 2)],
                         [13, 4, 9])

    def test_each_switch_alone(self):
        for top in TOPS:
            for up, down in all_switches(top):
                device = made_device(top, 7, {(up, down): 10})
                works = [work_at(device, (), levels) for levels in (
                    [], [up], [up - 1], [up, top], [up, down], [up, down + 1], [up, 0], [up, 0, up], [up] * 5)]
                self.assertEqual(works, [0, 10 * up, 0, 10 * up, 10 * (up - down), 10 * up, 10 * (up - down),
                                         10 * (2 * up - down), 10 * up])

    def test_one_level(self):
        for device in drawn_devices(70, 1):
            for memory, steps in steps_by_words(device).items():
                for level, (_, work) in enumerate(steps):
                    self.assertEqual(work_at(device, memory, [level]), work)
                self.assertEqual(work_at(device, memory, []), 0)

    def test_drawn_levels(self):
        draw = drawing(71)
        for device in drawn_devices(72, 1):
            for _ in range(8):
                history = drawn_history(draw, device.top, 20)
                levels = drawn_history(draw, device.top, 20)
                self.assertEqual(work_at(device, memory_by_words(history), levels),
                                 work_by_words(device, history, levels))

    def test_many_levels(self):
        levels = [6, 1, 5, 2, 4, 3, 0] * 2000
        device = drawn_device(drawing(73), 6)
        self.assertEqual(work_at(device, (), levels), 2000 * work_by_words(device, [], levels[:7]))

    def test_great_numbers(self):
        self.assertEqual(work_at(multiplied(EXAMPLE, GREAT), (), [2, 1, 2, 0]), 13 * GREAT)
        self.assertEqual(loop_work(multiplied(EXAMPLE, -GREAT), 0, 2), -9 * GREAT)

    def test_small_loops(self):
        for device in drawn_devices(74, 1):
            for low, high in small_loops(device.top):
                told = loop_work(device, low, high)
                self.assertEqual(told, loop_by_words(device, low, high))
                self.assertEqual(told, work_by_words(device, [high, low], [high, low]))

    def test_sums(self):
        draw = drawing(75)
        for top in TOPS:
            first, second = drawn_device(draw, top), drawn_device(draw, top)
            both = added(first, second)
            levels = drawn_history(draw, top, 20)
            self.assertEqual(work_at(both, (), levels), work_at(first, (), levels) + work_at(second, (), levels))
            for low, high in small_loops(top):
                self.assertEqual(loop_work(both, low, high), loop_work(first, low, high) + loop_work(second, low, high))


class ClosedLoopsTest(unittest.TestCase):
    def check(self, top, history):
        told = closed_loops(top, history)
        self.assertIs(type(told), dict)
        self.assertLessEqual(set(told), set(small_loops(top)))
        for (low, high), many in told.items():
            self.assertEqual((type(low), type(high), type(many)), (int, int, int))
            self.assertGreaterEqual(many, 1)
        in_all, in_memory = times_on(top, history), times_on(top, list(memory_by_words(history)))
        for up, down in all_switches(top):
            closed = sum(told[low, high] for low, high in told if low <= down and up <= high)
            self.assertEqual(in_all[up, down], in_memory[up, down] + closed, (history, told, up, down))
        return told

    def test_some_loops(self):
        for history, loops in (
                ([], {}), ([0, 0], {}), ([3], {}), ([3, 1, 2], {}), ([3, 0], {(0, 3): 1}), ([3, 1, 3], {(1, 3): 1}),
                ([3, 1, 2, 1], {(1, 2): 1}), ([3, 1, 2, 1, 3], {(1, 2): 1, (1, 3): 1}), ([2, 1, 3], {(1, 2): 1}),
                ([3, 1, 2, 0], {(1, 2): 1, (0, 3): 1}), ([1, 0] * 3, {(0, 1): 3}), ([2, 1, 2, 1, 2], {(1, 2): 2}),
                ([4, 1, 3, 2, 4], {(1, 4): 1, (2, 3): 1}), ([4, 1, 3, 2, 3], {(2, 3): 1}),
                ([4, 1, 3, 2, 1], {(1, 3): 1}), ([4, 2, 3, 1], {(2, 3): 1}), ([4, 2, 4, 4], {(2, 4): 1})):
            with self.subTest(history=history):
                self.assertEqual(self.check(4, history), loops)

    def test_short_histories(self):
        for top, many in ((1, 7), (2, 6), (3, 5), (4, 4), (5, 3), (6, 3)):
            for history in short_histories(top, many):
                self.check(top, history)

    def test_drawn_histories(self):
        draw = drawing(76)
        for top in TOPS:
            for _ in range(60):
                self.check(top, drawn_history(draw, top, 40))

    def test_works(self):
        draw = drawing(77)
        for device in drawn_devices(78, 1):
            history = drawn_history(draw, device.top, 20)
            work = work_by_words(device, [], list(memory_by_words(history)))
            for loop, many in closed_loops(device.top, history).items():
                work += many * loop_by_words(device, *loop)
            self.assertEqual(work, work_by_words(device, [], history))

    def test_many_levels(self):
        self.assertEqual(closed_loops(6, [6, 1, 5, 2, 4, 3] * 3000),
                         {(1, 6): 2999, (2, 5): 2999, (3, 4): 2999})

    def test_new_each_time(self):
        closed_loops(1, [1, 0]).clear()
        self.assertEqual(closed_loops(1, [1, 0]), {(0, 1): 1})


class LoopsCase(unittest.TestCase):
    def check_loop(self, device, told):
        """Tells the work of a loop that is right."""
        self.assertIs(type(told), tuple)
        memory, levels = told
        self.assertIn(memory, memories_by_words(device.top))
        self.assertIs(type(levels), list)
        self.assertGreaterEqual(len(levels), 1)
        self.assertTrue(all(type(level) is int and 0 <= level <= device.top for level in levels))
        self.assertEqual(memory_by_words([*memory, *levels]), memory)
        return work_by_words(device, list(memory), levels)

    def check_numbers(self, device, share, numbers):
        self.assertIs(type(numbers), dict)
        self.assertEqual(set(numbers), set(memories_by_words(device.top)))
        self.assertEqual({type(number) for number in numbers.values()}, {int})
        self.assertTrue(are_numbers_by_words(device, share, numbers))
        self.assertIs(are_numbers(device, share, numbers), True)


class PotentialsTest(LoopsCase):
    def check(self, device):
        loop, numbers = giving_loop(device), potentials(device)
        self.assertEqual((loop is None) + (numbers is None), 1)
        if loop is None:
            self.check_numbers(device, (0, 1), numbers)
        else:
            self.assertLess(self.check_loop(device, loop), 0)
        return loop is None

    def test_drawn_devices(self):
        found = {self.check(device) for device in drawn_devices(79, 4)}
        self.assertEqual(found, {True, False})

    def test_no_weight_below_0(self):
        draw = drawing(80)
        for top in TOPS:
            for _ in range(4):
                self.assertTrue(self.check(drawn_device(draw, top, range(9))))
            self.assertTrue(self.check(Device.parse(f"{top} -5")))

    def test_a_weight_below_0_but_no_giving_loop(self):
        for text in KEEPING:
            self.assertTrue(self.check(Device.parse(text)))
            weights = Device.parse(text).weights()
            self.assertLess(min(weights.values()), 0)

    def test_one_loop_gives(self):
        for top in TOPS:
            for low, high in small_loops(top):
                # Just the loops that have this one within them have this weight.
                self.assertFalse(self.check(made_device(top, 0, {(high, low): -1})))
                weights = {switch: 1 for switch in all_switches(top)}
                weights[high, low] = -1 - loop_by_words(made_device(top, 0, weights), low, high)
                self.assertFalse(self.check(made_device(top, 0, weights)))
                weights[high, low] = 0
                exact = loop_by_words(made_device(top, 0, weights), low, high)
                if exact % (high - low) == 0:
                    weights[high, low] = -exact // (high - low)
                    device = made_device(top, 0, weights)
                    self.assertEqual(loop_by_words(device, low, high), 0)
                    self.assertTrue(self.check(device))

    def test_great_numbers(self):
        self.assertTrue(self.check(multiplied(EXAMPLE, GREAT)))
        self.assertFalse(self.check(multiplied(EXAMPLE, -GREAT)))

    def test_new_each_time(self):
        potentials(EXAMPLE).clear()
        self.assertEqual(len(potentials(EXAMPLE)), 4)
        device = Device.parse("1 0\n1 0 -1")
        giving_loop(device)[1].clear()
        self.assertNotEqual(giving_loop(device)[1], [])


class ShareTest(LoopsCase):
    def check(self, device):
        share = least_share(device)
        least = least_by_words(device)
        self.assertEqual((type(share), share), (tuple, (least.numerator, least.denominator)))
        self.assertEqual({type(number) for number in share}, {int})
        loop = share_loop(device)
        self.assertEqual(Fraction(self.check_loop(device, loop), len(loop[1])), least)
        self.check_numbers(device, share, share_numbers(device))
        return share

    def test_drawn_devices(self):
        bottoms = {self.check(device)[1] for device in drawn_devices(81, 4)}
        self.assertEqual(bottoms, {1, 2})

    def test_some_shares(self):
        for text, share in (("1 0", (0, 1)), ("1 0\n1 0 5", (0, 1)), ("1 0\n1 0 -1", (-1, 2)), ("1 0\n1 0 -2", (-1, 1)),
                            ("1 9\n1 0 -7", (-7, 2)), ("2 0\n2 0 -1", (-1, 1)), ("2 0\n2 0 -3", (-3, 1)),
                            ("2 0\n1 0 1\n2 0 -1\n2 1 1", (0, 1)), ("2 0\n1 0 1\n2 0 -1\n2 1 -1", (-1, 1)),
                            ("2 0\n1 0 -1\n2 1 -1", (-1, 1)), ("3 0\n3 0 -1", (-3, 2))):
            self.assertEqual(self.check(Device.parse(text)), share)

    def test_no_loop_has_less(self):
        for top in (1, 2, 3):
            for seed in range(82, 86):
                device = drawn_device(drawing(seed), top, range(-5, 6))
                least = least_by_words(device)
                for memory in memories_by_words(top):
                    for levels in short_histories(top, 3)[1:]:
                        if memory_by_words([*memory, *levels]) == memory:
                            share = Fraction(work_by_words(device, list(memory), levels), len(levels))
                            self.assertGreaterEqual(share, least)

    def test_great_numbers(self):
        self.assertEqual(self.check(multiplied(EXAMPLE, -GREAT)), (-9 * GREAT // 2, 1))
        self.assertEqual(self.check(multiplied(EXAMPLE, 1 - GREAT)), (-9 * (GREAT - 1), 2))

    def test_new_each_time(self):
        share_numbers(EXAMPLE).clear()
        self.assertEqual(len(share_numbers(EXAMPLE)), 4)
        share_loop(EXAMPLE)[1].clear()
        self.assertNotEqual(share_loop(EXAMPLE)[1], [])


class NumbersTest(ValuesCase):
    def check(self, device, share, numbers):
        told = are_numbers(device, share, numbers)
        self.assertIs(told, are_numbers_by_words(device, share, numbers))
        return told

    def test_one_number_changed(self):
        for top in TOPS:
            found = set()
            for device in (drawn_device(drawing(87), top, range(-3, 9)), drawn_device(drawing(88), top, range(3))):
                share, numbers = least_share(device), share_numbers(device)
                self.assertTrue(self.check(device, share, numbers))
                for memory in list(numbers)[::1 if top < 5 else 9]:
                    for step in (-1, 1, -50):
                        found.add(self.check(device, share, {**numbers, memory: numbers[memory] + step}))
            self.assertIn(False, found)

    def test_all_numbers_moved(self):
        for device in (EXAMPLE, Device.parse("3 0\n2 1 -5\n3 0 7")):
            numbers = share_numbers(device)
            moved = {memory: numbers[memory] + GREAT for memory in reversed(list(numbers))}
            self.assertTrue(self.check(device, least_share(device), moved))

    def test_other_fractions(self):
        device = Device.parse("2 0\n1 0 -3\n2 0 1")
        self.assertEqual(least_share(device), (-3, 2))
        numbers = share_numbers(device)
        self.assertTrue(self.check(device, (-3, 2), numbers))
        for share in ((-3, 2), (-2, 1), (-1, 1), (0, 1), (1, 1), (-5, 3), (-4, 3), (-GREAT, 1), (GREAT, 1)):
            doubled = {memory: share[1] * work_by_words(device, [], list(memory)) - share[0] * len(memory)
                       for memory in memories_by_words(2)}
            self.assertIs(self.check(device, share, doubled), Fraction(*share) <= Fraction(-3, 2))
            self.check(device, share, numbers)

    def test_drawn_numbers(self):
        draw = drawing(89)
        found = set()
        for _ in range(600):
            device = drawn_device(draw, 1, range(-2, 3))
            numbers = {memory: draw.randint(-3, 3) for memory in memories_by_words(1)}
            found.add(self.check(device, (draw.randint(-3, 1), draw.randint(1, 2)), numbers))
        self.assertEqual(found, {True, False})

    def test_keys(self):
        numbers = potentials(EXAMPLE)
        self.check_told(True, partial(are_numbers, EXAMPLE), (0, 1), numbers)
        for memory in numbers:
            less = {key: numbers[key] for key in numbers if key != memory}
            self.check_told(False, partial(are_numbers, EXAMPLE), (0, 1), less)
            for key in NO_MEMORIES + ((3,), (3, 1), (1, 2), (2, 2), (0,)):
                if type(key) in (list, dict) or "[" in repr(key) or "{" in repr(key) or key in numbers:
                    continue
                self.check_told(False, partial(are_numbers, EXAMPLE), (0, 1), {**less, key: 0})
                self.check_told(False, partial(are_numbers, EXAMPLE), (0, 1), {**numbers, key: 0})

    def test_keys_that_are_true(self):
        flat = {(): 0, (2,): 0, (2, 1): 0}
        device = Device.parse("2 0")
        self.check_told(True, partial(are_numbers, device), (0, 1), {**flat, (1,): 0})
        self.check_told(False, partial(are_numbers, device), (0, 1), {**flat, (True,): 0})
        self.check_told(False, partial(are_numbers, device), (0, 1), {(): 0, (1,): 0, (2,): 0, (2, True): 0})

    def test_numbers_of_other_kinds(self):
        for value in NO_INTEGERS:
            for memory in memories_by_words(2):
                flat = {other: 0 for other in memories_by_words(2)}
                self.check_told(False, partial(are_numbers, Device.parse("2 0")), (0, 1), {**flat, memory: value})

    def test_no_dicts(self):
        for value in NO_LISTS + ([], [0, 0, 0, 0], [((), 0)], nested(50), [(), (1,), (2,), (2, 1)]):
            self.check_told(False, partial(are_numbers, EXAMPLE), (0, 1), value)

    def test_memories_of_other_tops(self):
        for first in TOPS:
            for second in TOPS:
                flat = {memory: 0 for memory in memories_by_words(second)}
                self.assertIs(are_numbers(Device.parse(f"{first} 3"), (0, 1), flat), first == second)


class WrongValuesTest(ValuesCase):
    device = Device.parse("3 0\n2 1 5")

    def test_histories(self):
        for value, index in NO_HISTORIES:
            self.check_error(BadLevels, {"index": index}, partial(work_at, self.device), (3, 1), value)
            self.check_error(BadLevels, {"index": index}, partial(closed_loops, 3), value)

    def test_memories(self):
        for value in NO_MEMORIES:
            for levels in ([1, 2], [], [4], None):
                self.check_error(BadMemory, {}, partial(work_at, self.device), value, levels)

    def test_other_tops(self):
        for top in TOPS:
            device = Device.parse(f"{top} 0")
            self.check_told(0, partial(work_at, device), (top,), [0, top])
            self.check_error(BadLevels, {"index": 1}, partial(work_at, device), (), [0, top + 1])
            self.check_error(BadMemory, {}, partial(work_at, device), (top + 1,), [top + 1])
            self.check_told({}, partial(closed_loops, top), [0, top])
            self.check_error(BadLevels, {"index": 1}, partial(closed_loops, top), [0, top + 1])

    def test_right_values_stay(self):
        self.check_told(10, partial(work_at, self.device), (3, 1), [1, 2, 3])
        self.check_told({(1, 3): 2}, partial(closed_loops, 3), [3, 1, 3, 1, 3])


class InterfaceTest(unittest.TestCase):
    def test_by_name(self):
        self.assertEqual(work_at(device=EXAMPLE, memory=(), levels=[2, 1, 2, 0]), 13)
        self.assertEqual(loop_work(device=EXAMPLE, low=1, high=2), 4)
        self.assertEqual(closed_loops(top=1, history=[1, 0]), {(0, 1): 1})
        self.assertIsNone(giving_loop(device=EXAMPLE))
        self.assertEqual(set(potentials(device=EXAMPLE)), set(memories(2)))
        self.assertEqual(least_share(device=EXAMPLE), (0, 1))
        self.assertEqual(len(share_loop(device=EXAMPLE)), 2)
        numbers = share_numbers(device=EXAMPLE)
        self.assertIs(are_numbers(device=EXAMPLE, share=(0, 1), numbers=numbers), True)

    def test_defined_in_their_file(self):
        for function in (work_at, loop_work, closed_loops, giving_loop, potentials, least_share, share_loop,
                         share_numbers, are_numbers):
            self.assertEqual(function.__module__, "turnweights.work")
            self.assertIs(getattr(module, function.__name__), function)


if __name__ == "__main__":
    unittest.main()
