"""Points 32 and 38: places of memories, and crossings of their joins and meetings."""

import unittest
from collections import Counter
from functools import lru_cache, partial
from itertools import product

from by_words import TOPS, all_switches, drawing, drawn_device, drawn_history, memories_by_words, memory_by_words
from by_words import on_after, output_by_words, sums_by_words
from turnweights import places as module
from turnweights.errors import BadMemory
from turnweights.places import are_crossings, crossings, place_of
from wrong_values import NO_INTEGERS, NO_LISTS, NO_MEMORIES, ValuesCase, nested

SMALL_TOPS = (1, 2, 3, 4)
GREAT = 10 ** 999
# Point 32, for each top: the outer switches and the inner ones, in their orders.
OUTER = {
    1: [(1, 0)],
    2: [(1, 0), (2, 0), (2, 1)],
    3: [(1, 0), (2, 0), (3, 0), (3, 1), (3, 2)],
    4: [(1, 0), (2, 0), (3, 0), (4, 0), (4, 1), (4, 2), (4, 3)],
}
INNER = {1: [], 2: [], 3: [(2, 1)], 4: [(2, 1), (3, 1), (3, 2)]}


class PlaceTest(ValuesCase):
    def test_examples(self):
        self.assertEqual([place_of(4, (3, 1)), place_of(4, (3, 1, 2)), place_of(4, (4, 2)), place_of(4, (4,))],
                         [(3, 0), (3, 1), (5, 2), (7, 3)])

    def test_all_switches_are_outer_or_inner(self):
        for top in SMALL_TOPS:
            self.assertEqual(sorted(OUTER[top] + INNER[top]), sorted(all_switches(top)))
            self.assertEqual({switch for switch in OUTER[top]},
                             {(up, down) for up, down in all_switches(top) if down == 0 or up == top})

    def test_all_memories(self):
        for top in SMALL_TOPS:
            found = set()
            for memory in memories_by_words(top):
                told = place_of(top, memory)
                self.assertEqual((type(told), [type(part) for part in told]), (tuple, [int, int]))
                outer, inner = told
                self.assertEqual(set(OUTER[top][:outer] + INNER[top][:inner]), set(on_after(top, memory)))
                found.add(told)
            self.assertEqual(len(found), 2 ** top)

    def test_outputs_are_sums_for_both_parts(self):
        for top in SMALL_TOPS:
            device = drawn_device(drawing(220), top)
            weights = device.weights()
            for memory in memories_by_words(top):
                outer, inner = place_of(top, memory)
                first = device.base + sum(weights.get(switch, 0) for switch in OUTER[top][:outer])
                second = sum(weights.get(switch, 0) for switch in INNER[top][:inner])
                self.assertEqual(first + second, output_by_words(device, memory))

    def test_wrong_memories(self):
        for value in NO_MEMORIES:
            self.check_error(BadMemory, {}, partial(place_of, 3), value)
        for top in SMALL_TOPS:
            self.check_told((2 * top - 1, max(0, (top - 1) * (top - 2) // 2)), partial(place_of, top), (top,))
            self.check_error(BadMemory, {}, partial(place_of, top), (top + 1,))
            self.check_error(BadMemory, {}, partial(place_of, top), (True,))


@lru_cache
def by_switches(top):
    """Point 10: the memories by the switches that are on with them."""
    return {on_after(top, memory): memory for memory in memories_by_words(top)}


def joined_by_words(top, first, second):
    return by_switches(top)[on_after(top, first) | on_after(top, second)]


def met_by_words(top, first, second):
    return by_switches(top)[on_after(top, first) & on_after(top, second)]


def are_crossings_by_words(top, histories, numbers, entries):
    """Point 38, for a list of tuples of two memories and an integer."""
    given, made = Counter(), Counter()
    for history, number in zip(histories, numbers):
        given[memory_by_words(history)] += number
    for first, second, number in entries:
        made[first] += number
        made[second] += number
        made[joined_by_words(top, first, second)] -= number
        made[met_by_words(top, first, second)] -= number
    return all(given[memory] == made[memory] for memory in memories_by_words(top))


def drawn_history_of(draw, top, memory):
    """Some history with a memory."""
    if draw.randrange(2):
        return list(memory)
    history = [*drawn_history(draw, top, 4), 0, *memory]
    return history + history[-1:] * draw.randrange(2)


def drawn_groups(draw, top, many):
    """Histories and numbers: sums of groups of two memories, their join and their meeting, in any order."""
    pairs = []
    for _ in range(many):
        first, second = draw.choice(memories_by_words(top)), draw.choice(memories_by_words(top))
        number = draw.choice((1, -1, 2, 7, -300))
        for memory, sign in ((first, 1), (second, 1), (joined_by_words(top, first, second), -1),
                             (met_by_words(top, first, second), -1)):
            pairs.append((drawn_history_of(draw, top, memory), sign * number))
    draw.shuffle(pairs)
    return [history for history, _ in pairs], [number for _, number in pairs]


class CrossingsTest(ValuesCase):
    def check(self, top, histories, numbers):
        told = crossings(top, histories, numbers)
        are_0 = set(sums_by_words(top, histories, numbers)) == {0}
        if not are_0:
            self.assertIsNone(told)
            self.assertIs(are_crossings(top, histories, numbers, []), False)
            return False
        self.assertIs(type(told), list)
        for entry in told:
            self.assertEqual((type(entry), len(entry), type(entry[2])), (tuple, 3, int))
            self.assertLessEqual({entry[0], entry[1]}, set(memories_by_words(top)))
        self.assertTrue(are_crossings_by_words(top, histories, numbers, told))
        self.assertIs(are_crossings(top, histories, numbers, told), True)
        return True

    def test_of_groups(self):
        draw = drawing(221)
        for top in TOPS:
            for many in (0, 1, 1, 1, 2, 3, 5, 9, 20):
                self.assertTrue(self.check(top, *drawn_groups(draw, top, many)))

    def test_of_all_pairs(self):
        for top in SMALL_TOPS:
            for first, second in product(memories_by_words(top), repeat=2):
                four = [first, second, joined_by_words(top, first, second), met_by_words(top, first, second)]
                self.assertTrue(self.check(top, [list(memory) for memory in four], [3, 3, -3, -3]))

    def test_with_one_number_changed(self):
        draw = drawing(222)
        for top in TOPS:
            for many in (1, 2, 5):
                histories, numbers = drawn_groups(draw, top, many)
                for index in range(len(numbers)):
                    changed = list(numbers)
                    changed[index] += draw.choice((1, -1, 50))
                    self.assertFalse(self.check(top, histories, changed))

    def test_with_two_numbers_changed(self):
        # The sum is 0 again, but that over some switch is mostly not.
        draw = drawing(223)
        for top in TOPS:
            found = set()
            for _ in range(12):
                histories, numbers = drawn_groups(draw, top, 3)
                for _ in range(4):
                    changed = list(numbers)
                    changed[draw.randrange(12)] += 1
                    changed[draw.randrange(12)] -= 1
                    found.add(self.check(top, histories, changed))
            self.assertEqual(found, {True, False})

    def test_drawn_numbers(self):
        draw = drawing(224)
        for top in TOPS:
            for many in (1, 2, 5):
                histories = [drawn_history(draw, top, 8) for _ in range(many)]
                self.check(top, histories, [draw.randint(-2, 2) for _ in range(many)])

    def test_some_numbers(self):
        self.assertEqual(crossings(3, [], []), [])
        self.assertTrue(self.check(3, [[1], [2]], [0, 0]))
        self.assertTrue(self.check(3, [[2, 1, 2], [1, 2]], [5, -5]))
        self.assertIsNone(crossings(3, [[]], [1]))
        self.assertIsNone(crossings(3, [[1], [2]], [1, -1]))
        self.assertTrue(self.check(3, [[3, 1], [2], [3, 1, 2], [2, 1]], [-GREAT, -GREAT, GREAT, GREAT]))
        self.assertIsNone(crossings(3, [[3, 1], [2], [3, 1, 2], [2, 1]], [-GREAT, -GREAT, GREAT, GREAT + 1]))

    def test_many_histories(self):
        draw = drawing(225)
        histories, numbers = drawn_groups(draw, 6, 400)
        self.assertTrue(self.check(6, histories, numbers))
        self.assertTrue(self.check(6, [[6, 1, 5, 2, 4, 3] * 300, [6, 1, 5, 2, 4, 3]], [1, -1]))

    def test_new_each_time(self):
        histories, numbers = [[3, 1], [2], [3, 1, 2], [2, 1]], [-1, -1, 1, 1]
        told = crossings(3, histories, numbers)
        self.assertNotEqual(told, [])
        crossings(3, histories, numbers).clear()
        self.assertEqual(crossings(3, histories, numbers), told)
        self.assertEqual((histories, numbers), ([[3, 1], [2], [3, 1, 2], [2, 1]], [-1, -1, 1, 1]))


class AreCrossingsTest(ValuesCase):
    histories = [[3, 1], [2], [3, 1, 2], [2, 1]]
    numbers = [-1, -1, 1, 1]

    def told(self, value):
        return partial(are_crossings, 3, self.histories, self.numbers), value

    def test_right_ones(self):
        for value in ([((3, 1), (2,), -1)], [((2,), (3, 1), -1)], [((3, 1), (2,), 4), ((2,), (3, 1), -5)],
                      [((3, 1), (2,), -1), ((3,), (2,), 70), ((1,), (1,), -8)],
                      [((1,), (1,), 0), ((3, 1), (2,), -1), ((), (), GREAT)]):
            self.check_told(True, *self.told(value))

    def test_one_thing_changed(self):
        for value in ([], [((3, 1), (2,), 1)], [((3, 1), (2,), -2)], [((3, 1), (2,), 0)], [((3, 1), (1,), -1)],
                      [((3,), (2,), -1)], [((3, 1, 2), (2, 1), -1)], [((3, 1), (2,), -1)] * 2,
                      [((3, 1), (2,), -1), ((2, 1), (1,), 5), ((3, 2), (3, 1, 2), 1)]):
            expected = are_crossings_by_words(3, self.histories, self.numbers, value)
            self.check_told(expected, *self.told(value))
        self.check_told(False, *self.told([((3, 1), (2,), -2)]))

    def test_memories_exchanged(self):
        draw = drawing(226)
        for top in (3, 4, 5, 6):
            found = set()
            for _ in range(40):
                histories, numbers = drawn_groups(draw, top, 2)
                entries = crossings(top, histories, numbers)
                for index, (first, second, number) in enumerate(entries):
                    other = draw.choice(memories_by_words(top))
                    for changed in ((second, first, number), (first, other, number), (other, second, number),
                                    (first, second, number + 1), (joined_by_words(top, first, second),
                                                                  met_by_words(top, first, second), number)):
                        value = entries[:index] + [changed] + entries[index + 1:]
                        expected = are_crossings_by_words(top, histories, numbers, value)
                        self.assertIs(are_crossings(top, histories, numbers, value), expected)
                        found.add(expected)
            self.assertEqual(found, {True, False})

    def test_memories_of_two_crossings_exchanged(self):
        histories = [[4, 1], [3], [4, 1, 3], [3, 1], [4, 2], [3], [4, 2, 3], [3, 2]]
        numbers = [1, 1, -1, -1, 1, 1, -1, -1]
        for value, expected in (([((4, 1), (3,), 1), ((4, 2), (3,), 1)], True),
                                ([((4, 1), (4, 2), 1), ((3,), (3,), 1)], False),
                                ([((3,), (4, 1), 1), ((3,), (4, 2), 1)], True), ([((4, 1), (3,), 2)], False)):
            self.assertIs(are_crossings_by_words(4, histories, numbers, value), expected)
            self.assertIs(are_crossings(4, histories, numbers, value), expected)

    def test_of_no_histories(self):
        for value, expected in (([], True), ([((), (), 5)], True), ([((3,), (2,), 1)], True),
                                ([((3, 1), (2,), 1)], False)):
            self.assertIs(are_crossings(3, [], [], value), expected)
            self.assertIs(are_crossings(3, [[1], [2]], [0, 0], value), expected)

    def test_other_kinds(self):
        right = ((3, 1), (2,), -1)
        for value in NO_LISTS + ((right,), {0: right}, nested(50)):
            self.check_told(False, *self.told(value))
        for entry in NO_LISTS + ([], list(right), right[:2], right + (0,), right[::-1], nested(48), ((3, 1), -1, (2,))):
            self.check_told(False, *self.told([entry]))
            self.check_told(False, *self.told([right, entry]))
        for value in NO_MEMORIES:
            self.check_told(False, *self.told([right, (value, (2,), 0)]))
            self.check_told(False, *self.told([right, ((2,), value, 0)]))
        for value in NO_INTEGERS:
            self.check_told(False, *self.told([right, ((2,), (2,), value)]))

    def test_true_is_no_integer(self):
        self.check_told(True, partial(are_crossings, 3, self.histories, [1, 1, -1, -1]), [((3, 1), (2,), 1)])
        self.check_told(False, partial(are_crossings, 3, self.histories, [1, 1, -1, -1]), [((3, 1), (2,), True)])
        self.check_told(False, partial(are_crossings, 3, self.histories, [1, 1, -1, -1]), [((3, True), (2,), 1)])

    def test_memories_of_other_tops(self):
        for top in TOPS:
            self.assertIs(are_crossings(top, [], [], [((top,), (), 1)]), True)
            self.assertIs(are_crossings(top, [], [], [((top + 1,), (), 1)]), False)


class InterfaceTest(unittest.TestCase):
    def test_by_name(self):
        self.assertEqual(place_of(top=4, memory=(3, 1)), (3, 0))
        self.assertEqual(crossings(top=4, histories=[[1]], numbers=[0]), [])
        self.assertIs(are_crossings(top=4, histories=[[1]], numbers=[0], crossings=[]), True)

    def test_defined_in_their_file(self):
        for function in (place_of, crossings, are_crossings):
            self.assertEqual(function.__module__, "turnweights.places")
            self.assertIs(getattr(module, function.__name__), function)


if __name__ == "__main__":
    unittest.main()
