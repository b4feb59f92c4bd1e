"""Point 36: how little and how much the output after a further history can be."""

import unittest
from functools import partial

from by_words import all_switches, drawing, drawn_history, memories_by_words, memory_by_words, on_after
from by_words import output_by_words, sums_by_words
from turnweights import ranges as module
from turnweights.devices import Device
from turnweights.errors import BadLevels, BadRecords, NoFit
from turnweights.ranges import are_end_numbers, direction, end_device, end_numbers, is_direction, span
from turnweights.wide import wide_fit
from wide_words import GREAT, NO_RECORDS, NO_SWITCHES, RECORDS, SMALL_TOPS, TORN, WideCase, all_drawn_records
from wide_words import greatest_by_words, histories_of, keeps_by_words, least_by_words, output_of
from wrong_values import NO_HISTORIES, NO_INTEGERS, NO_LISTS, nested

BOTH = (False, True)
SIDES = (0, 1)


def shares_by_words(top, history):
    """The sums that end numbers have: 1, and for each switch 1 if it is on."""
    on = on_after(top, history)
    return [1] + [1 if switch in on else 0 for switch in all_switches(top)]


def are_end_by_words(top, records, history, side, numbers, rising, output):
    """Point 36, for as many integers as records, and the output at a side."""
    total, *over = sums_by_words(top, histories_of(records), numbers)
    one, *shares = shares_by_words(top, history)
    for told, share in zip(over, shares):
        may_be_less, may_be_greater = rising and side == 0, rising and side == 1
        if told < share and not may_be_less or told > share and not may_be_greater:
            return False
    end = greatest_by_words(records, numbers) if side == 1 else least_by_words(records, numbers)
    return total == one and end == output


def is_direction_by_words(top, records, history, side, value, rising):
    """Point 36, for an integer and a dict from switches to integers that are not 0."""
    base, weights = value
    if rising and min(weights.values(), default=0) < 0:
        return False
    after = output_of(top, base, weights, history)
    return (all(output_of(top, base, weights, told) == 0 for told in histories_of(records))
            and (after > 0 if side == 1 else after < 0))


def fitting_records(seed, many, rising):
    """Pairs of a top and drawn records that have a wide fit, or a rising fit."""
    return [(top, records) for top, records in all_drawn_records(seed, many)
            if wide_fit(top, records, rising) is not None]


class SpanCase(WideCase):
    def check_side(self, top, records, history, side, rising, output):
        """What shows that a side is just there, or that it is open."""
        values = (top, records, history, side, rising)
        device, numbers, shown = end_device(*values), end_numbers(*values), direction(*values)
        if output is None:
            self.assertEqual((device, numbers), (None, None))
            self.assertEqual((type(shown), len(shown)), (tuple, 2))
            base, weights = shown
            self.assertEqual((type(base), type(weights)), (int, dict))
            self.assertLessEqual(set(weights), set(all_switches(top)))
            self.assertTrue(all(type(weight) is int and weight != 0 for weight in weights.values()))
            self.assertTrue(is_direction_by_words(top, records, history, side, shown, rising))
            self.assertIs(is_direction(top, records, history, side, shown, rising), True)
            return
        self.assertIs(type(output), int)
        self.assertIsNone(shown)
        self.assertEqual((type(device), device.top), (Device, top))
        self.assertTrue(keeps_by_words(device, records, rising))
        self.assertEqual(output_by_words(device, history), output)
        self.check_numbers(records, numbers)
        self.assertTrue(are_end_by_words(top, records, history, side, numbers, rising, output))
        self.assertIs(are_end_numbers(top, records, history, side, numbers, rising), True)

    def check(self, top, records, history, rising):
        """The range is shown on both sides."""
        kept = repr((records, history))
        told = span(top, records, history, rising)
        self.assertEqual((type(told), len(told)), (tuple, 2))
        for side in SIDES:
            self.check_side(top, records, history, side, rising, told[side])
        self.assertEqual(repr((records, history)), kept)
        return told


class SpanTest(SpanCase):
    def test_examples(self):
        self.assertEqual(self.check(4, RECORDS, [4, 1], False), (-6, -3))
        self.assertEqual(self.check(2, [([2], 0, 10)], [1], True), (None, 10))

    def test_drawn_records(self):
        draw = drawing(250)
        for rising in BOTH:
            found = set()
            for top, records in fitting_records(251, 100, rising):
                for history in draw.sample(memories_by_words(top), 2):
                    told = self.check(top, records, list(history), rising)
                    found.add(tuple(end is None for end in told))
            # Without rising, both sides are open, or none.
            both = {(True, True), (False, False)}
            self.assertEqual(found, both | {(True, False), (False, True)} if rising else both)

    def test_all_memories(self):
        for rising in BOTH:
            for top, records in fitting_records(252, 6, rising):
                for memory in memories_by_words(top):
                    self.check(top, records, list(memory), rising)

    def test_drawn_histories(self):
        draw = drawing(253)
        for rising in BOTH:
            for top, records in fitting_records(254, 12, rising):
                history = drawn_history(draw, top, 20)
                told = self.check(top, records, history, rising)
                self.assertEqual(span(top, records, list(memory_by_words(history)), rising), told)

    def test_after_the_history_of_a_record(self):
        # The range is within what the record says.
        for rising in BOTH:
            for top, records in fitting_records(255, 20, rising):
                for history, low, high in records[:4]:
                    least, greatest = self.check(top, records, history, rising)
                    self.assertTrue(low <= least <= greatest <= high)

    def test_some_ranges(self):
        for records, history, rising, expected in (
                ([], [], False, (None, None)), ([], [2, 1], True, (None, None)), ([([], 3, 5)], [0], False, (3, 5)),
                ([([], 3, 5)], [1], False, (None, None)), ([([], 3, 5)], [1], True, (3, None)),
                ([([1], 3, 5)], [], True, (None, 5)), ([([1], 3, 5), ([3], 4, 7)], [2], True, (3, 7)),
                ([([1], 3, 5), ([3], 4, 7)], [2], False, (None, None)),
                ([([1], 3, 5), ([3], 4, 7), ([1], 4, 9)], [1, 1], False, (4, 5)),
                ([([3, 1], 0, 1), ([2], 10, 12), ([2, 1], 100, 100)], [3, 1, 2], False, (-90, -87)),
                ([([3, 1], 0, 1), ([2], 10, 12), ([2, 1], 1, 1)], [3, 1, 2], False, (9, 12)),
                ([([3, 1], 0, 1), ([2], 10, 12), ([2, 1], 1, 1)], [3, 1, 2], True, (10, 12)),
                ([(history, -9999, 9999) for history in ([3, 1], [2], [2, 1])], [3, 1, 2], False, (-29997, 29997))):
            with self.subTest(records=records, history=history, rising=rising):
                self.assertEqual(self.check(3, records, history, rising), expected)

    def test_each_output_of_a_range_is_that_of_a_fit(self):
        for rising in BOTH:
            least, greatest = self.check(4, [([1], 0, 2), ([4, 1], 5, 7), ([3], 3, 8)], [3], rising)
            for output in range(least - 2, greatest + 3):
                records = [([1], 0, 2), ([4, 1], 5, 7), ([3], 3, 8), ([3, 3], output, output)]
                self.assertEqual(wide_fit(4, records, rising) is not None, least <= output <= greatest)

    def test_in_any_order_and_again(self):
        for rising in BOTH:
            for top, records in fitting_records(256, 8, rising):
                for memory in memories_by_words(top)[::3]:
                    told = self.check(top, records, list(memory), rising)
                    self.assertEqual(span(top, records[::-1], list(memory), rising), told)
                    for side in SIDES:
                        for function in (end_device, end_numbers, direction):
                            values = (top, records, list(memory), side, rising)
                            self.assertEqual(function(*values), function(*values))

    def test_new_each_time(self):
        values = (4, RECORDS, [4, 1], 0, False)
        told = end_numbers(*values)
        told.append(8)
        end_numbers(*values).clear()
        self.assertIs(are_end_numbers(4, RECORDS, [4, 1], 0, end_numbers(*values), False), True)
        values = (2, [([2], 0, 10)], [1], 0, True)
        direction(*values)[1].clear()
        direction(*values)[1][2, 1] = -7
        self.assertIs(is_direction(2, [([2], 0, 10)], [1], 0, direction(*values), True), True)


class AreEndNumbersTest(SpanCase):
    def told(self, top, records, history, side, numbers, rising):
        told = are_end_numbers(top, records, history, side, numbers, rising)
        output = span(top, records, history, rising)[side]
        expected = output is not None and are_end_by_words(top, records, history, side, numbers, rising, output)
        self.assertIs(told, expected)
        return told

    def test_one_thing_changed(self):
        draw = drawing(257)
        found = set()
        for rising in BOTH:
            for top, records in fitting_records(258, 40, rising):
                for memory in draw.sample(memories_by_words(top), 2):
                    history = list(memory)
                    for side in SIDES:
                        numbers = end_numbers(top, records, history, side, rising)
                        if numbers is None:
                            continue
                        self.assertTrue(self.told(top, records, history, side, numbers, rising))
                        found.add(("side", rising, self.told(top, records, history, 1 - side, numbers, rising)))
                        self.assertFalse(self.told(top, records, history, side, [2 * each for each in numbers], rising))
                        for index in range(len(numbers)):
                            changed = list(numbers)
                            changed[index] += 1
                            self.assertFalse(self.told(top, records, history, side, changed, rising))
                            changed[index - 1] -= 1
                            found.add(("two", rising, self.told(top, records, history, side, changed, rising)))
        self.assertEqual(found, {(name, rising, told) for name in ("side", "two") for rising in BOTH for told in BOTH})

    def test_of_rising_ones_for_all_fits(self):
        records = [([1], 3, 5), ([3], 4, 7)]
        for side, numbers in ((0, [1, 0]), (1, [0, 1])):
            self.assertTrue(self.told(3, records, [2], side, numbers, True))
            self.assertFalse(self.told(3, records, [2], side, numbers, False))
            self.assertFalse(self.told(3, records, [2], 1 - side, numbers, True))
            self.assertFalse(self.told(3, records, [2], side, numbers[::-1], True))

    def test_a_sum_that_is_not_the_output(self):
        records = [([1], 3, 5), ([1, 0, 1], 4, 9), ([2], 70, 90)]
        for rising in BOTH:
            for numbers, expected in (([1, 0, 0], (False, True)), ([0, 1, 0], (True, False)),
                                      ([2, -1, 0], (False, False)), ([-1, 2, 0], (False, False)),
                                      ([0, 0, 1], (False, False)), ([0, 0, 0], (False, False))):
                told = tuple(self.told(2, records, [1], side, numbers, rising) for side in SIDES)
                self.assertEqual(told, expected)

    def test_an_open_side(self):
        for numbers in ([1], [0], [2], None, [], [-1]):
            for side in SIDES:
                self.check_told(False, partial(are_end_numbers, 2, [([2], 0, 10)], [1]), side, numbers, False)
        self.check_told(False, partial(are_end_numbers, 2, [([2], 0, 10)], [1]), 0, [1], True)
        self.check_told(True, partial(are_end_numbers, 2, [([2], 0, 10)], [1]), 1, [1], True)
        self.check_told(False, partial(are_end_numbers, 2, [], []), 1, [], True)

    def test_other_kinds(self):
        for rising in BOTH:
            told = partial(are_end_numbers, 4, RECORDS[:2], [3, 1])
            self.check_told(True, told, 0, [1, 0], rising)
            for side in SIDES:
                for value in NO_LISTS + ([], [1], [1, 0, 0], (1, 0), {0: 1, 1: 0}, nested(50), [[1, 0]], [1, [0]],
                                         [1, "0"]):
                    self.check_told(False, told, side, value, rising)
                for value in NO_INTEGERS:
                    self.check_told(False, told, side, [value, 0], rising)
                    self.check_told(False, told, side, [1, value], rising)


class IsDirectionTest(SpanCase):
    def told(self, top, records, history, side, value, rising):
        told = is_direction(top, records, history, side, value, rising)
        self.assertIs(told, is_direction_by_words(top, records, history, side, value, rising))
        return told

    def test_one_thing_changed(self):
        draw = drawing(259)
        found = set()
        for rising in BOTH:
            for top, records in fitting_records(260, 40, rising):
                for memory in draw.sample(memories_by_words(top), 2):
                    for side in SIDES:
                        value = direction(top, records, list(memory), side, rising)
                        if value is None:
                            continue
                        base, weights = value
                        told = partial(self.told, top, records, list(memory))
                        many = {switch: GREAT * weight for switch, weight in weights.items()}
                        self.assertTrue(told(side, (GREAT * base, many), rising))
                        self.assertFalse(told(1 - side, value, rising))
                        if wide_fit(top, records, not rising) is not None:
                            found.add(("other", rising, told(side, value, not rising)))
                        found.add(("base", rising, told(side, (base + 1, weights), rising)))
                        found.add(("base", rising, told(side, (base - 1, weights), rising)))
                        for switch in all_switches(top):
                            for step in (1, -1, 3):
                                changed = {**weights, switch: weights.get(switch, 0) + step}
                                changed = {each: weight for each, weight in changed.items() if weight}
                                found.add(("weight", rising, told(side, (base, changed), rising)))
        self.assertEqual(found, {(name, rising, told) for name in ("other", "base", "weight") for rising in BOTH
                                 for told in BOTH} - {("other", True, False)})

    def test_some_directions(self):
        records = [([2], 0, 10)]
        for value, history, expected in (
                ((-1, {(2, 0): 1}), [1], (True, False)), ((1, {(2, 0): -1}), [1], (False, True)),
                ((0, {}), [1], (False, False)), ((-1, {(1, 0): 1}), [1], (False, False)),
                ((-1, {(1, 0): 1}), [0], (True, False)), ((-5, {(2, 1): 5}), [2, 1], (True, False)),
                ((-5, {(2, 1): 4}), [2, 1], (False, False)), ((5, {(2, 1): -6, (1, 0): 1}), [2, 1], (False, True))):
            for side in SIDES:
                self.assertEqual(self.told(2, records, history, side, value, False), expected[side])
                rising = expected[side] and min(value[1].values()) > 0
                self.assertEqual(self.told(2, records, history, side, value, True), rising)

    def test_a_side_that_is_not_open(self):
        for value in ((1, {}), (-1, {}), (0, {}), (-1, {(1, 0): 1}), (1, {(2, 0): 5})):
            for side in SIDES:
                for rising in BOTH:
                    self.assertFalse(self.told(2, [([2, 1], 0, 10)], [1, 2, 1], side, value, rising))

    def test_other_kinds(self):
        base, weights = -1, {(2, 0): 1}
        for rising in BOTH:
            told = partial(is_direction, 2, [([2], 0, 10)], [1], 0)
            self.check_told(True, told, (base, weights), rising)
            for value in NO_LISTS + ([], (base,), (weights,), [base, weights], (weights, base), (base, weights, 0),
                                     nested(50), (1, base, weights), (base, list(weights)), (base, None),
                                     (base, [((2, 0), 1)])):
                self.check_told(False, told, value, rising)
            for value in NO_INTEGERS:
                self.check_told(False, told, (value, weights), rising)
                self.check_told(False, told, (base, {(2, 0): value}), rising)
            for switch in NO_SWITCHES:
                self.check_told(False, told, (base, {switch: 1}), rising)
                self.check_told(False, told, (base, {**weights, switch: 1}), rising)
            self.check_told(False, told, (base, {**weights, (2, 1): 0}), rising)


class ErrorsTest(WideCase):
    def functions(self, top, rising):
        """The functions, as those of records and a history."""
        return [lambda records, history: span(top, records, history, rising)] + [
            lambda records, history, function=function, side=side: function(top, records, history, side, rising)
            for function in (end_device, end_numbers, direction) for side in SIDES] + [
            lambda records, history, function=function, value=value: function(top, records, history, 1, value, rising)
            for function in (are_end_numbers, is_direction) for value in (None, [1, 0], (0, {}))]

    def test_records(self):
        for rising in BOTH:
            self.check_records_errors([partial(lambda function, records: function(records, [1]), function)
                                       for function in self.functions(3, rising)])

    def test_records_ahead_of_levels(self):
        for function in self.functions(3, False):
            for value in NO_RECORDS[::5]:
                self.check_error(BadRecords, {"index": 1}, function, [([], 0, 0), value], [9])
                self.check_error(BadRecords, {"index": 4}, function, [*TORN, value], None)
            self.check_error(BadRecords, {"index": 24}, function, [([], 0, 0)] * 25, None)

    def test_levels(self):
        for rising in BOTH:
            for function in self.functions(3, rising):
                for value, index in NO_HISTORIES:
                    self.check_error(BadLevels, {"index": index}, function, [([1], 0, 5)], value)

    def test_levels_ahead_of_no_fit(self):
        for rising in BOTH:
            for function in self.functions(3, rising):
                for value, index in NO_HISTORIES[::3]:
                    self.check_error(BadLevels, {"index": index}, function, TORN, value)

    def test_no_fit(self):
        for rising in BOTH:
            for function in self.functions(3, rising):
                for history in ([], [3, 1], [2, 1, 2]):
                    self.check_error(NoFit, {}, function, TORN, history)
                    self.check_error(NoFit, {}, function, [([1], 0, 1), ([1, 1], 2, 3)], history)
        for function in self.functions(4, True):
            self.check_error(NoFit, {}, function, RECORDS, [4, 1])
        for function in self.functions(4, False):
            function(RECORDS, [4, 1])

    def test_levels_of_other_tops(self):
        for top in SMALL_TOPS:
            self.check_told((None, None), partial(span, top, []), [top], False)
            self.check_error(BadLevels, {"index": 1}, partial(span, top, []), [top, top + 1], False)


class InterfaceTest(unittest.TestCase):
    def test_by_name(self):
        self.assertEqual(span(top=4, records=RECORDS, history=[4, 1], rising=False), (-6, -3))
        values = {"top": 4, "records": RECORDS, "history": [4, 1], "side": 0, "rising": False}
        self.assertTrue(keeps_by_words(end_device(**values), RECORDS, False))
        self.assertIs(are_end_numbers(numbers=end_numbers(**values), **values), True)
        values = {"top": 2, "records": [([2], 0, 10)], "history": [1], "side": 0, "rising": True}
        self.assertIs(is_direction(value=direction(**values), **values), True)

    def test_defined_in_their_file(self):
        for function in (span, end_device, end_numbers, direction, are_end_numbers, is_direction):
            self.assertEqual(function.__module__, "turnweights.ranges")
            self.assertIs(getattr(module, function.__name__), function)


if __name__ == "__main__":
    unittest.main()
