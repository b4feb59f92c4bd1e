"""Point 35: how far lows and highs must give way, so that there is a fit."""

import unittest
from fractions import Fraction
from functools import partial
from math import gcd

from by_words import all_switches, drawing, memories_by_words
from turnweights import stretches as module
from turnweights.errors import BadRecords
from turnweights.stretches import are_stretch_numbers, is_stretched_fit, stretch, stretch_numbers, stretched_fit
from turnweights.wide import wide_fit
from wide_words import EIGHT, GREAT, NO_SWITCHES, RECORDS, SMALL_TOPS, TORN, WideCase, all_drawn_records
from wide_words import have_sums_of_bars, least_by_words, output_of
from wrong_values import NO_INTEGERS, NO_LISTS, nested

BOTH = (False, True)


def is_stretched_by_words(top, records, fraction, fit, rising):
    """Point 35, for a bottom from 1, a base and weights that are not 0."""
    bottom, base, weights = fit
    more = Fraction(*fraction)
    if rising and min(weights.values(), default=0) < 0:
        return False
    return all(bottom * (low - more) <= output_of(top, base, weights, history) <= bottom * (high + more)
               for history, low, high in records)


def are_stretching_by_words(top, records, fraction, numbers, rising):
    """Point 35, for as many integers as records, and a fraction above 0."""
    size = sum(abs(number) for number in numbers)
    return (size > 0 and have_sums_of_bars(top, records, numbers, rising)
            and least_by_words(records, numbers) == Fraction(*fraction) * size)


class StretchCase(WideCase):
    def check(self, top, records, rising):
        """The stretch has a fit, and no smaller fraction has one; tells the stretch."""
        kept = repr(records)
        told = stretch(top, records, rising)
        self.assertEqual((type(told), [type(part) for part in told]), (tuple, [int, int]))
        more, bottom = told
        self.assertTrue(more >= 0 and bottom >= 1 and gcd(more, bottom) == 1 and 24 * more % bottom == 0)
        self.assertEqual(told == (0, 1), wide_fit(top, records, rising) is not None)
        self.check_fit(top, records, told, stretched_fit(top, records, rising), rising)
        numbers = stretch_numbers(top, records, rising)
        if told == (0, 1):
            self.assertIsNone(numbers)
        else:
            self.check_numbers(records, numbers)
            # So a smaller fraction has no stretched fit: its least sum would be above what it has.
            self.assertTrue(are_stretching_by_words(top, records, told, numbers, rising))
            self.assertIs(are_stretch_numbers(top, records, told, numbers, rising), True)
        self.assertEqual(repr(records), kept)
        return told

    def check_fit(self, top, records, fraction, fit, rising):
        self.assertEqual((type(fit), len(fit)), (tuple, 3))
        bottom, base, weights = fit
        self.assertEqual((type(bottom), type(base), type(weights)), (int, int, dict))
        self.assertGreaterEqual(bottom, 1)
        self.assertLessEqual(set(weights), set(all_switches(top)))
        self.assertTrue(all(type(weight) is int and weight != 0 for weight in weights.values()))
        self.assertTrue(is_stretched_by_words(top, records, fraction, fit, rising))
        self.assertIs(is_stretched_fit(top, records, fraction, fit, rising), True)


class StretchTest(StretchCase):
    def test_example(self):
        self.assertEqual(stretch(3, TORN, False), (1, 4))
        self.assertEqual([self.check(3, TORN, rising) for rising in BOTH], [(1, 4), (1, 2)])
        self.assertEqual([self.check(4, RECORDS, rising) for rising in BOTH], [(0, 1), (2, 1)])
        self.assertEqual(self.check(4, EIGHT, False), (1, 8))
        for index in range(8):
            self.assertEqual(self.check(4, EIGHT[:index] + EIGHT[index + 1:], False), (0, 1))

    def test_drawn_records(self):
        for rising in BOTH:
            found = {self.check(top, records, rising)[1] for top, records in all_drawn_records(240, 120)}
            self.assertLessEqual({1, 2}, found)

    def test_a_rising_stretch_is_no_less(self):
        for top, records in all_drawn_records(241, 40):
            self.assertLessEqual(Fraction(*self.check(top, records, False)), Fraction(*self.check(top, records, True)))

    def test_two_records_of_one_memory(self):
        for low in range(-3, 9):
            expected = Fraction(max(0, low - 2), 2)
            for rising in BOTH:
                told = self.check(3, [([2, 1], 0, 2), ([2, 2, 1], low, low + 1), ([3], 5, 5)], rising)
                self.assertEqual(Fraction(*told), max(expected, Fraction(max(0, -low - 1), 2)))

    def test_rising_between_two_memories(self):
        for more in range(5):
            records = [([2], 0, 0), ([1], more, more)]
            self.assertEqual([Fraction(*self.check(2, records, rising)) for rising in BOTH], [0, Fraction(more, 2)])

    def test_all_bottoms(self):
        draw = drawing(242)
        for rising, bottoms in ((False, {1, 2, 3, 4, 6, 8}), (True, {1, 2, 4})):
            found = set()
            for _ in range(700):
                some = draw.sample(memories_by_words(4), draw.randint(4, 12))
                outputs = [draw.randint(-1, 1) for _ in some]
                records = [(list(memory), output, output) for memory, output in zip(some, outputs)]
                found.add(self.check(4, records, rising)[1])
            self.assertLessEqual(bottoms, found)

    def test_no_records(self):
        for top in SMALL_TOPS:
            for rising in BOTH:
                self.assertEqual(self.check(top, [], rising), (0, 1))

    def test_great_stretches(self):
        records = [([], 9999, 9999), ([0, 0], -9999, -9999), ([2], 9998, 9998)]
        for rising in BOTH:
            self.assertEqual(self.check(2, records, rising), (9999, 1))

    def test_in_any_order_and_again(self):
        for top, records in all_drawn_records(243, 20):
            for rising in BOTH:
                told = self.check(top, records, rising)
                self.assertEqual(self.check(top, records[::-1], rising), told)
                self.assertEqual(stretched_fit(top, records, rising), stretched_fit(top, records, rising))
                self.assertEqual(stretch_numbers(top, records, rising), stretch_numbers(top, records, rising))

    def test_new_each_time(self):
        stretch_numbers(3, TORN, False).clear()
        stretched_fit(3, TORN, False)[2].clear()
        stretched_fit(3, TORN, False)[2][1, 0] = 77
        self.assertEqual(self.check(3, TORN, False), (1, 4))


class IsStretchedFitTest(StretchCase):
    def told(self, top, records, fraction, fit, rising):
        told = is_stretched_fit(top, records, fraction, fit, rising)
        self.assertIs(told, is_stretched_by_words(top, records, fraction, fit, rising))
        return told

    def test_one_thing_changed(self):
        found = set()
        for top, records in all_drawn_records(244, 40):
            for rising in BOTH:
                fraction, (bottom, base, weights) = stretch(top, records, rising), stretched_fit(top, records, rising)
                self.assertTrue(self.told(top, records, fraction, (bottom, base, weights), rising))
                for number in (2, 3, 70):
                    many = {switch: number * weight for switch, weight in weights.items()}
                    self.assertTrue(self.told(top, records, fraction, (number * bottom, number * base, many), rising))
                    found.add(("bottom", self.told(top, records, fraction, (number * bottom, base, weights), rising)))
                for step in (1, -1, -800, 90):
                    found.add(("base", self.told(top, records, fraction, (bottom, base + step, weights), rising)))
                for switch in all_switches(top):
                    for step in (1, -1, -800, 90):
                        changed = {**weights, switch: weights.get(switch, 0) + step}
                        changed = {each: weight for each, weight in changed.items() if weight}
                        found.add(("weight", self.told(top, records, fraction, (bottom, base, changed), rising)))
                found.add(("rising", self.told(top, records, fraction, (bottom, base, weights), not rising)))
        self.assertEqual(found, {(name, told) for name in ("bottom", "base", "weight", "rising") for told in BOTH})

    def test_fractions_above_and_below(self):
        for top, records in all_drawn_records(245, 40):
            for rising in BOTH:
                (more, bottom), fit = stretch(top, records, rising), stretched_fit(top, records, rising)
                self.assertTrue(self.told(top, records, (100 * more + 1, 100 * bottom), fit, rising))
                self.assertTrue(self.told(top, records, (more + 5, bottom), fit, rising))
                self.assertTrue(self.told(top, records, (6 * more, 6 * bottom), fit, rising))
                if more:
                    self.assertFalse(self.told(top, records, (100 * more - 1, 100 * bottom), fit, rising))
                    self.assertFalse(self.told(top, records, (GREAT * more - 1, GREAT * bottom), fit, rising))
                    self.assertFalse(self.told(top, records, (0, 1), fit, rising))

    def test_weights_below_0(self):
        for switch in all_switches(4):
            fit = (2, 1, {switch: -1})
            self.assertEqual([self.told(4, [([], 0, 0)], (1, 2), fit, rising) for rising in BOTH], [True, False])
            self.assertEqual([self.told(4, [], (0, 1), fit, rising) for rising in BOTH], [True, False])
        self.assertTrue(self.told(4, [([], -3, -3)], (0, 1), (1, -3, {}), True))

    def test_other_kinds(self):
        base, weights = 0, {(2, 0): 1, (3, 1): 4}
        for rising in BOTH:
            told = partial(is_stretched_fit, 3, [([1], 0, 0)], (9, 1))
            self.check_told(True, told, (1, base, weights), rising)
            for value in NO_LISTS + ([], (1, base), (1, base, weights, 0), [1, base, weights], (0, base, weights),
                                     nested(50), (-1, base, weights), (1, weights, base), (1, base, list(weights)),
                                     (1, base, None)):
                self.check_told(False, told, value, rising)
            for value in NO_INTEGERS:
                self.check_told(False, told, (value, base, weights), rising)
                self.check_told(False, told, (1, value, weights), rising)
                self.check_told(False, told, (1, base, {(2, 0): value}), rising)
            for switch in NO_SWITCHES:
                self.check_told(False, told, (1, base, {switch: 5}), rising)
            self.check_told(False, told, (1, base, {(2, 0): 0}), rising)
            self.check_told(True, told, (1, base, {}), rising)


class AreStretchNumbersTest(StretchCase):
    def told(self, top, records, fraction, numbers, rising):
        told = are_stretch_numbers(top, records, fraction, numbers, rising)
        self.assertIs(told, are_stretching_by_words(top, records, fraction, numbers, rising))
        return told

    def test_one_thing_changed(self):
        found = set()
        for top, records in all_drawn_records(246, 60):
            for rising in BOTH:
                (more, bottom), numbers = stretch(top, records, rising), stretch_numbers(top, records, rising)
                if numbers is None:
                    continue
                for times in (1, 2, GREAT):
                    many = [times * number for number in numbers]
                    self.assertTrue(self.told(top, records, (more, bottom), many, rising))
                    self.assertTrue(self.told(top, records, (5 * more, 5 * bottom), many, rising))
                self.assertFalse(self.told(top, records, (100 * more - 1, 100 * bottom), numbers, rising))
                self.assertFalse(self.told(top, records, (100 * more + 1, 100 * bottom), numbers, rising))
                self.assertFalse(self.told(top, records, (more, bottom), [-number for number in numbers], rising))
                self.assertFalse(self.told(top, records, (more, bottom), [0 for _ in numbers], rising))
                found.add(("other", rising, self.told(top, records, (more, bottom), numbers, not rising)))
                for index in range(len(numbers)):
                    changed = list(numbers)
                    changed[index] += 1
                    self.assertFalse(self.told(top, records, (more, bottom), changed, rising))
                    changed[index - 1] -= 1
                    found.add(("two", rising, self.told(top, records, (more, bottom), changed, rising)))
        self.assertEqual(found, {("two", False, True), ("two", False, False), ("two", True, True), ("two", True, False),
                                 ("other", False, True), ("other", True, True), ("other", True, False)})

    def test_smaller_fractions_that_other_numbers_show(self):
        # Not the stretch, but a fraction that some numbers have.
        records = [([2], 0, 0), ([1, 2], 6, 6), ([0, 2], 4, 4)]
        for rising in BOTH:
            self.assertEqual(stretch(2, records, rising), (3, 1))
            self.assertTrue(self.told(2, records, (3, 1), [-1, 1, 0], rising))
            self.assertTrue(self.told(2, records, (2, 1), [-1, 0, 1], rising))
            self.assertFalse(self.told(2, records, (3, 1), [-1, 0, 1], rising))
            self.assertTrue(self.told(2, records, (5, 2), [-2, 1, 1], rising))

    def test_the_fraction_0(self):
        records = [([2], 0, 5), ([1, 2], 5, 6)]
        for rising in BOTH:
            for numbers in ([-1, 1], [0, 0]):
                self.assertIs(are_stretch_numbers(2, records, (0, 1), numbers, rising), False)
            self.assertIs(are_stretch_numbers(2, [], (0, 1), [], rising), False)
            self.assertIs(are_stretch_numbers(2, [], (1, 2), [], rising), False)

    def test_other_kinds(self):
        for rising in BOTH:
            told = partial(are_stretch_numbers, 3, TORN, (1, 4))
            self.check_told(True, told, [-1, -1, 1, 1], rising)
            for value in NO_LISTS + ([], [-1, -1, 1], [-1, -1, 1, 1, 0], (-1, -1, 1, 1), {0: -1}, nested(50),
                                     [[-1, -1, 1, 1]], [-1, -1, 1, "1"], [-1, -1, 1, [1]]):
                self.check_told(False, told, value, rising)
            for value in NO_INTEGERS:
                self.check_told(False, told, [-1, -1, 1, value], rising)
                self.check_told(False, told, [value, -1, 1, 1], rising)


class WrongRecordsTest(WideCase):
    def test_all_functions(self):
        self.check_records_errors([
            lambda records: stretch(3, records, False), lambda records: stretched_fit(3, records, True),
            lambda records: stretch_numbers(3, records, False),
            lambda records: is_stretched_fit(3, records, (1, 2), (1, 0, {}), True),
            lambda records: are_stretch_numbers(3, records, (1, 2), [0], False)])

    def test_ahead_of_other_values(self):
        for function in (is_stretched_fit, are_stretch_numbers):
            self.check_error(BadRecords, {"index": 1}, function, 3, [([], 0, 0), ([], 1, 0)], (0, 1), None, False)


class InterfaceTest(unittest.TestCase):
    def test_by_name(self):
        fraction = stretch(top=3, records=TORN, rising=False)
        fit = stretched_fit(top=3, records=TORN, rising=False)
        numbers = stretch_numbers(top=3, records=TORN, rising=False)
        self.assertIs(is_stretched_fit(top=3, records=TORN, fraction=fraction, fit=fit, rising=False), True)
        self.assertIs(are_stretch_numbers(top=3, records=TORN, fraction=fraction, numbers=numbers, rising=False), True)

    def test_defined_in_their_file(self):
        for function in (stretch, stretched_fit, stretch_numbers, is_stretched_fit, are_stretch_numbers):
            self.assertEqual(function.__module__, "turnweights.stretches")
            self.assertIs(getattr(module, function.__name__), function)


if __name__ == "__main__":
    unittest.main()
