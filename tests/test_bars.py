"""Points 13, 14 and 15: bars, divided bars and fits of records are told from what is none."""

import unittest
from functools import partial

from by_words import TOPS, all_switches, are_bars_by_words, are_divided_by_words, drawing, drawn_device
from by_words import drawn_history, is_fit_by_words, memories_by_words, output_by_words
from turnweights import bars as module
from turnweights.bars import are_bars, are_divided, is_fit
from turnweights.errors import BadRecords
from turnweights.memories import joined, met
from wrong_values import NO_HISTORIES, NO_INTEGERS, NO_LISTS, ValuesCase, nested

GREAT = 10 ** 999
# The example of point 31: these records have a fit, and no device.
HALVES = [([4, 1], 0), ([3, 2], 0), ([3, 1], 0), ([5, 1, 4, 2], 1), ([4, 2, 3], 0), ([5, 1, 3], 0)]
HALVES_PAIR = (2, [-1, -1, 1, -1, 1, 1])
HALVES_FIT = (2, 0, {(3, 2): -1, (4, 1): 1, (5, 0): 1})


def drawn_squares(draw, top, many):
    """Histories with numbers whose sums are all 0: two memories, against their join and their meeting."""
    histories, numbers = [], []
    for _ in range(many):
        first, second = draw.choice(memories_by_words(top)), draw.choice(memories_by_words(top))
        number = draw.choice([-2, -1, 1, 3])
        for memory, sign in ((first, 1), (second, 1), (joined(top, first, second), -1), (met(top, first, second), -1)):
            histories.append([0, 1, top, 0][:draw.randint(0, 4)] + [0] + list(memory))
            numbers.append(sign * number)
    return histories, numbers


def changed_each(numbers, steps):
    """The numbers with each one changed by each of these steps."""
    for index in range(len(numbers)):
        for step in steps:
            yield numbers[:index] + [numbers[index] + step] + numbers[index + 1:]


class BarsTest(unittest.TestCase):
    def check(self, top, records, numbers):
        told = are_bars(top, records, numbers)
        self.assertIs(told, are_bars_by_words(top, records, numbers), (records, numbers))
        return told

    def test_some_bars(self):
        for first, second, told in ((5, 6, True), (5, 5, False), (0, 0, False), (0, -1, True)):
            self.assertIs(are_bars(2, [([1], first), ([2, 0, 1], second)], [1, -1]), told)
            self.assertIs(are_bars(2, [([1], first), ([2, 0, 1], second)], [-4, 4]), told)
        self.assertIs(are_bars(2, [([1], 5), ([2], 6)], [1, -1]), False)
        self.assertIs(are_bars(2, [([1], 5), ([1], 6)], [1, 1]), False)
        self.assertIs(are_bars(2, [([1], 5), ([1], 6)], [1, -2]), False)
        self.assertIs(are_bars(2, [([1], 5), ([1], 6)], [0, 0]), False)
        self.assertIs(are_bars(2, [([], 5), ([0], 5), ([1, 0], 3)], [1, 1, -2]), True)
        self.assertIs(are_bars(2, [([], 5), ([0], 5), ([1, 0], 3)], [1, 1, -1]), False)

    def test_no_records(self):
        self.assertIs(are_bars(3, [], []), False)
        self.assertIs(are_bars(3, [], [0]), False)
        self.assertIs(are_bars(3, [], None), False)

    def test_squares(self):
        draw = drawing(20)
        for top in TOPS:
            found = set()
            for _ in range(25):
                histories, numbers = drawn_squares(draw, top, draw.randint(1, 3))
                records = [(history, draw.randint(-2, 2)) for history in histories]
                found.add(self.check(top, records, numbers))
                for changed in changed_each(numbers, (-1, 1, 7)):
                    found.add(self.check(top, records, changed))
            self.assertEqual(found, {True, False})

    def test_the_outputs_of_devices_have_none(self):
        draw = drawing(21)
        for top in TOPS:
            device = drawn_device(draw, top)
            for _ in range(10):
                histories, numbers = drawn_squares(draw, top, 2)
                records = [(history, output_by_words(device, history)) for history in histories]
                self.assertIs(are_bars(top, records, numbers), False)
                for index, (history, output) in enumerate(records):
                    changed = records[:index] + [(history, output + 1)] + records[index + 1:]
                    self.assertIs(are_bars(top, changed, numbers), numbers[index] != 0)

    def test_each_switch_counts(self):
        for top in TOPS:
            for up, down in all_switches(top):
                # Just this switch is more often on after those with 1 than after those with -1.
                records = [([up, down + 1], 1), ([up, down], 2), ([up - 1, down + 1], 3), ([up - 1, down], 4)]
                if down + 1 == up:
                    records = [([up], 1), ([up, down], 2)]
                self.assertIs(self.check(top, records, [1, -1, -1, 1][:len(records)]), False)

    def test_drawn_numbers(self):
        draw = drawing(22)
        for top in TOPS:
            for _ in range(60):
                records = [(drawn_history(draw, top, 3), draw.randint(-1, 1)) for _ in range(draw.randint(0, 4))]
                self.check(top, records, [draw.randint(-1, 1) for _ in records])

    def test_great_numbers(self):
        records = [([1], GREAT), ([2, 0, 1], GREAT + 1)]
        self.assertIs(are_bars(2, records, [GREAT, -GREAT]), True)
        self.assertIs(are_bars(2, records, [GREAT, 1 - GREAT]), False)

    def test_many_records(self):
        records = [([level % 3, level % 2], 7) for level in range(3000)]
        self.assertIs(are_bars(2, records + [([2], 8), ([2], 7)], [0] * 3000 + [1, -1]), True)
        self.assertIs(are_bars(2, records + [([2], 7), ([2], 7)], [0] * 3000 + [1, -1]), False)


class DividedTest(unittest.TestCase):
    def check(self, top, records, number, numbers):
        told = are_divided(top, records, (number, numbers))
        self.assertIs(told, are_divided_by_words(top, records, number, numbers), (records, number, numbers))
        return told

    def test_example(self):
        self.assertIs(are_divided(5, HALVES, HALVES_PAIR), True)
        self.assertIs(are_divided(6, HALVES, HALVES_PAIR), True)
        self.assertIs(are_divided(5, HALVES, (4, HALVES_PAIR[1])), False)
        self.assertIs(are_divided(5, HALVES, (4, [2 * number for number in HALVES_PAIR[1]])), True)
        self.assertIs(are_bars(5, HALVES, HALVES_PAIR[1]), False)

    def test_moved_by_multiples(self):
        draw = drawing(23)
        for _ in range(30):
            moved = [number + 2 * draw.randint(-3, 3) for number in HALVES_PAIR[1]]
            self.assertIs(are_divided(5, HALVES, (2, moved)), True)
            self.check(5, HALVES, 4, [2 * number for number in moved])

    def test_one_number_changed(self):
        for changed in changed_each(HALVES_PAIR[1], (-2, -1, 1, 2, 3)):
            self.check(5, HALVES, 2, changed)
        for index, (history, output) in enumerate(HALVES):
            changed = HALVES[:index] + [(history, output + 1)] + HALVES[index + 1:]
            self.assertIs(are_divided(5, changed, HALVES_PAIR), False)
            twice = HALVES[:index] + [(history, output + 2)] + HALVES[index + 1:]
            self.assertIs(are_divided(5, twice, HALVES_PAIR), True)

    def test_other_first_numbers(self):
        for number in NO_INTEGERS + (1, 0, -1, -2, 3, GREAT, -GREAT):
            self.assertIs(are_divided(5, HALVES, (number, HALVES_PAIR[1])), False)
        records = [([1], 5), ([1], 6)]
        for number in (2, 3, 4, 7, GREAT):
            self.assertIs(are_divided(1, records, (number, [1, -1])), True)
        for number in (1, 0, -1, -2, -3, -GREAT, True, False, None, "2", [2], (2,)):
            self.assertIs(are_divided(1, records, (number, [1, -1])), False)

    def test_squares(self):
        draw = drawing(24)
        for top in TOPS:
            found = set()
            for _ in range(25):
                histories, numbers = drawn_squares(draw, top, draw.randint(1, 3))
                records = [(history, draw.randint(-2, 2)) for history in histories]
                number = draw.choice([2, 3, 4, 6])
                moved = [each + number * draw.randint(-1, 1) for each in numbers]
                found.add(self.check(top, records, number, moved))
                for changed in changed_each(moved, (-1, 1, number)):
                    self.check(top, records, number, changed)
            self.assertEqual(found, {True, False})

    def test_drawn_numbers(self):
        draw = drawing(25)
        for top in TOPS:
            for _ in range(60):
                records = [(drawn_history(draw, top, 3), draw.randint(-1, 1)) for _ in range(draw.randint(0, 4))]
                self.check(top, records, draw.choice([2, 2, 3, 5]), [draw.randint(-2, 2) for _ in records])

    def test_no_records(self):
        self.assertIs(are_divided(3, [], (2, [])), False)
        self.assertIs(are_divided(3, [], None), False)

    def test_great_numbers(self):
        records = [([1], GREAT), ([2, 0, 1], GREAT + 1)]
        self.assertIs(are_divided(2, records, (GREAT, [GREAT + 1, GREAT - 1])), True)
        self.assertIs(are_divided(2, records, (GREAT, [GREAT + 1, GREAT])), False)


class FitTest(unittest.TestCase):
    def check(self, top, records, bottom, base, weights):
        told = is_fit(top, records, (bottom, base, weights))
        self.assertIs(told, is_fit_by_words(top, records, bottom, base, weights), (records, bottom, base, weights))
        return told

    def test_example(self):
        self.assertIs(is_fit(5, HALVES, HALVES_FIT), True)
        self.assertIs(is_fit(5, HALVES, (4, 0, {(3, 2): -2, (4, 1): 2, (5, 0): 2})), True)
        self.assertIs(is_fit(5, HALVES, (1, 0, HALVES_FIT[2])), False)
        self.assertIs(is_fit(5, HALVES, (2, 1, HALVES_FIT[2])), False)
        self.assertIs(is_fit(5, HALVES, (3, 0, HALVES_FIT[2])), False)

    def test_devices_with_all_bottoms(self):
        draw = drawing(26)
        for top in TOPS:
            for bottom in (1, 2, 3, 7, GREAT):
                device = drawn_device(draw, top)
                histories = [drawn_history(draw, top, 8) for _ in range(draw.randint(0, 12))]
                records = [(history, output_by_words(device, history)) for history in histories]
                weights = {switch: bottom * weight for switch, weight in device.weights().items()}
                base = bottom * device.base
                self.assertTrue(self.check(top, records, bottom, base, weights))
                if records:
                    self.assertFalse(self.check(top, records, bottom, base + 1, weights))
                for switch in weights:
                    self.check(top, records, bottom, base, {**weights, switch: weights[switch] * 3})
                    self.check(top, records, bottom, base, {key: weights[key] for key in weights if key != switch})
                for index, (history, output) in enumerate(records):
                    changed = records[:index] + [(history, output - 1)] + records[index + 1:]
                    self.assertFalse(self.check(top, changed, bottom, base, weights))
                self.check(top, records, bottom + 1, base, weights)

    def test_small_fits(self):
        draw = drawing(27)
        for top in (1, 2, 3):
            found = set()
            for _ in range(300):
                records = [(drawn_history(draw, top, 3), draw.randint(0, 1)) for _ in range(2)]
                weights = {switch: draw.choice([-1, 1, 2]) for switch in all_switches(top) if draw.randrange(2)}
                found.add(self.check(top, records, draw.randint(1, 2), draw.randint(0, 2), weights))
            self.assertEqual(found, {True, False})

    def test_one_history_twice(self):
        self.assertIs(is_fit(2, [([1], 5), ([2, 0, 1], 5)], (1, 5, {})), True)
        self.assertIs(is_fit(2, [([1], 5), ([2, 0, 1], 6)], (1, 5, {})), False)
        self.assertIs(is_fit(2, [([1], 5), ([2, 0, 1], 6)], (1, 6, {})), False)

    def test_no_records(self):
        for bottom in (1, 2, 9):
            self.assertIs(is_fit(3, [], (bottom, -4, {(3, 1): 5})), True)
            self.assertIs(is_fit(3, [], (bottom, 0, {})), True)
        self.assertIs(is_fit(3, [], (0, 0, {})), False)
        self.assertIs(is_fit(3, [], (1, 0, {(3, 1): 0})), False)

    def test_weights_of_0(self):
        for switch in all_switches(5):
            weights = {**HALVES_FIT[2], switch: 0}
            self.assertIs(is_fit(5, HALVES, (2, 0, weights)), False)

    def test_bottoms(self):
        for bottom in NO_INTEGERS + (0, -1, -2, -GREAT):
            self.assertIs(is_fit(5, HALVES, (bottom, 0, HALVES_FIT[2])), False)
            self.assertIs(is_fit(5, [([1], 0)], (bottom, 0, {})), False)
        self.assertIs(is_fit(5, [([1], 0)], (1, 0, {})), True)

    def test_bases(self):
        for base in NO_INTEGERS:
            self.assertIs(is_fit(5, HALVES, (2, base, HALVES_FIT[2])), False)
            self.assertIs(is_fit(5, [], (2, base, HALVES_FIT[2])), False)

    def test_weights_of_other_kinds(self):
        for weight in NO_INTEGERS:
            self.assertIs(is_fit(5, [], (2, 0, {(3, 2): weight})), False)
            self.assertIs(is_fit(5, [], (2, 0, {(3, 2): 1, (4, 1): weight})), False)
            self.assertIs(is_fit(5, [], (2, 0, {(3, 2): weight, (4, 1): 1})), False)
        for weights in NO_LISTS + ([], [1], [((1, 0), 5)], (((1, 0), 5),), nested(50)):
            if weights not in ({}, {(1, 0): 5}):
                self.assertIs(is_fit(5, [], (2, 0, weights)), False)

    def test_keys(self):
        for top in TOPS:
            for key in ((0, 0), (1, 1), (0, 1), (top + 1, 0), (top + 1, top), (top, top), (top, -1), (top, top + 1),
                        (1, 0, 0), (1,), (), 1, None, True, "", "10", ("1", "0"), (1, None), (None, 0), (True, 0),
                        (1, False), (True, False), ((1, 0),), ((1,), 0), (10 ** 999, 0), (top, -10 ** 999)):
                self.assertIs(is_fit(top, [], (1, 0, {key: 5})), False)
                self.assertIs(is_fit(top, [], (1, 0, {key: 5, (top, 0): 5})), False)
                self.assertIs(is_fit(top, [], (1, 0, {(top, top - 1): 5, key: 5})), (top, key) == (1, (True, 0)))

    def test_no_fits_at_all(self):
        weights = HALVES_FIT[2]
        for value in NO_LISTS + ([], [2, 0, weights], (2, 0), (2,), (2, 0, weights, 1), (0, weights), nested(50),
                                 {0: 2, 1: 0, 2: weights}, ((2, 0, weights),), (2, (0, weights))):
            self.assertIs(is_fit(5, HALVES, value), False)
            self.assertIs(is_fit(5, [], value), False)

    def test_great_numbers(self):
        records = [([1], GREAT), ([2], GREAT + 1)]
        self.assertIs(is_fit(2, records, (GREAT, 0, {(1, 0): GREAT ** 2, (2, 0): GREAT})), True)
        self.assertIs(is_fit(2, records, (GREAT, 0, {(1, 0): GREAT ** 2, (2, 0): GREAT - 1})), False)


NO_NUMBERS = NO_LISTS + (
    [], [1], [1, -1, 0], [1, -1, None], [[1, -1]], [[1], [-1]], [True, -1], [1, None], ["1", -1], [(1,), (-1,)],
    [1, (-1,)], [1, "-1"], (1, -1), {0: 1, 1: -1}, {1: 1, -1: -1}, [{}, {}], [None, None], [False, False], nested(50))
RECORDS = [([1], 5), ([2, 0, 1], 6)]


class WrongNumbersTest(ValuesCase):
    def test_bars(self):
        self.check_told(True, partial(are_bars, 3), RECORDS, [1, -1])
        for value in NO_NUMBERS:
            self.check_told(False, partial(are_bars, 3), RECORDS, value)

    def test_one_wrong_number(self):
        for value in NO_INTEGERS:
            for index in range(4):
                records = [([1], 5), ([1], 6), ([2], 7), ([2], 7)]
                numbers = [1, -1, 1, -1]
                numbers[index] = value
                self.check_told(False, partial(are_bars, 3), records, numbers)
                self.check_told(False, partial(are_divided, 3), records, (2, numbers))

    def test_true_is_not_1(self):
        self.check_told(False, partial(are_bars, 3), RECORDS, [True, -1])
        self.check_told(False, partial(are_bars, 3), RECORDS + [([], 0)], [1, -1, False])
        self.check_told(False, partial(are_divided, 3), RECORDS, (2, [True, -1]))

    def test_divided(self):
        self.check_told(True, partial(are_divided, 3), RECORDS, (2, [1, -1]))
        for value in NO_NUMBERS:
            self.check_told(False, partial(are_divided, 3), RECORDS, (2, value))
        for value in NO_NUMBERS + ([1, -1], [2, [1, -1]], (2, [1, -1], 0), (2,), (2, 1, -1), ((2, [1, -1]),),
                                   ([1, -1], 2), (2, (1, -1)), {2: [1, -1]}, {0: 2, 1: [1, -1]}):
            self.check_told(False, partial(are_divided, 3), RECORDS, value)


# Records for the top 3 that are wrong first at an index.
NO_RECORDS = tuple((value, 0) for value in NO_LISTS) + tuple(
    ([value], 0) for value in NO_LISTS + (
        [], [[1], 5], ([1],), ([1], 5, 5), ([1], 5, None), ([1], 5, 6, 7), (5, [1]), (5,), ([], [1]), ("", 5), (1, 5),
        ((1,), 5), ({}, 5), (None, 5), (True, 5), ([None], 5), ([1, 4], 5), ([-1], 5), ([True], 5), ([1, False], 5),
        ([[1]], 5), ([(1,)], 5), ([1, "2"], 5), (([1], 5),), [([1], 5)], {"history": [1], "output": 5}, nested(50),
        (nested(48), 5), ([1, 10 ** 999], 5))) + tuple(
    ([([1], value)], 0) for value in NO_INTEGERS) + (
    ([([1], 5), ([4], 5)], 1), ([([1], 5), ([3], 5), [[1], 5]], 2), ([([1], 5), ([3], True), None], 1),
    ([([1], 5)] * 500 + [([0, 0, 0, 4], 5)], 500), ([([], 0), ([], 0), ([], 0), 7, ([4], 0)], 3))


class WrongRecordsTest(ValuesCase):
    def test_wrong_records(self):
        for records, index in NO_RECORDS:
            for function in (are_bars, are_divided, is_fit):
                for value in (None, [1], (2, [1]), (1, 5, {})):
                    self.check_error(BadRecords, {"index": index}, partial(function, 3), records, value)

    def test_levels_of_other_tops(self):
        for top in TOPS:
            for function, value in ((are_bars, [1, -1]), (are_divided, (2, [1, 1])), (is_fit, (1, 5, {}))):
                self.check_told(function is is_fit, partial(function, top), [([0, top], 5), ([top], 5)], value)
                self.check_error(BadRecords, {"index": 1}, partial(function, top),
                                 [([0, top], 5), ([0, top + 1], 5)], value)

    def test_all_histories(self):
        for history, _ in NO_HISTORIES:
            self.check_error(BadRecords, {"index": 1}, partial(are_bars, 3), [([1], 5), (history, 5)], [1, -1])

    def test_right_values_stay(self):
        self.check_told(True, are_bars, 5, [([1], 5), ([1], 6)], [1, -1])
        self.check_told(True, are_divided, 5, HALVES, HALVES_PAIR)
        self.check_told(True, is_fit, 5, HALVES, HALVES_FIT)


class InterfaceTest(unittest.TestCase):
    def test_by_name(self):
        self.assertIs(are_bars(top=3, records=RECORDS, numbers=[1, -1]), True)
        self.assertIs(are_divided(top=5, records=HALVES, pair=HALVES_PAIR), True)
        self.assertIs(is_fit(top=5, records=HALVES, fit=HALVES_FIT), True)

    def test_defined_in_their_file(self):
        for function in (are_bars, are_divided, is_fit):
            self.assertEqual(function.__module__, "turnweights.bars")
            self.assertIs(getattr(module, function.__name__), function)


if __name__ == "__main__":
    unittest.main()
