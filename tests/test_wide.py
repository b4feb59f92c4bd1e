"""Points 33 and 34: wide records, fits that keep them, and bars."""

import unittest
from functools import partial

from by_words import all_switches, drawing, drawn_device, made_device, output_by_words
from turnweights import wide as module
from turnweights.devices import Device
from turnweights.errors import BadRecords
from turnweights.wide import are_wide_bars, keeps_all, wide_bars, wide_fit
from wide_words import GREAT, NO_RECORDS, RECORDS, SMALL_TOPS, TORN, WideCase, all_drawn_records
from wide_words import are_wide_bars_by_words, crossed_records, drawn_rising, keeps_by_words, kept_records, moved_record
from wrong_values import NO_INTEGERS, NO_LISTS, nested

BOTH = (False, True)


class FitTest(WideCase):
    def check(self, top, records, rising):
        """Just one of a fit and of bars is there, and it is right; tells whether it is a fit."""
        kept = repr(records)
        device, numbers = wide_fit(top, records, rising), wide_bars(top, records, rising)
        self.assertEqual(repr(records), kept)
        self.assertEqual((device is None) + (numbers is None), 1)
        if device is None:
            self.check_numbers(records, numbers)
            self.assertTrue(are_wide_bars_by_words(top, records, numbers, rising))
            self.assertIs(are_wide_bars(top, records, numbers, rising), True)
        else:
            self.assertEqual((type(device), device.top), (Device, top))
            self.assertTrue(keeps_by_words(device, records, rising))
            self.assertIs(keeps_all(device, records, rising), True)
        return device is not None

    def test_examples(self):
        self.assertEqual([wide_bars(4, RECORDS, False), wide_fit(4, RECORDS, True)], [None, None])
        self.assertEqual([self.check(4, RECORDS, rising) for rising in BOTH], [True, False])
        self.assertEqual([self.check(3, TORN, rising) for rising in BOTH], [False, False])

    def test_drawn_records(self):
        for rising in BOTH:
            found = {(top, self.check(top, records, rising)) for top, records in all_drawn_records(230, 150)}
            self.assertEqual(found, {(top, is_there) for top in SMALL_TOPS for is_there in BOTH})

    def test_a_rising_fit_is_a_fit(self):
        for top, records in all_drawn_records(231, 60):
            if self.check(top, records, True):
                self.assertTrue(self.check(top, records, False))

    def test_records_of_devices(self):
        draw = drawing(232)
        for top in SMALL_TOPS:
            for numbers in (range(-400, 401), range(-3, 4)):
                device = drawn_device(draw, top, numbers)
                for many in (1, 6, 24):
                    self.assertTrue(self.check(top, kept_records(draw, device, many, draw.choice((0, 5))), False))
            for many in (1, 6, 24):
                device = drawn_rising(draw, top, range(300))
                records = kept_records(draw, device, many, 0)
                self.assertTrue(self.check(top, records, True))
                self.assertTrue(self.check(top, records, False))

    def test_one_bound_moved(self):
        draw = drawing(233)
        for top in SMALL_TOPS:
            for rising in BOTH:
                found = set()
                for _ in range(40):
                    device = drawn_rising(draw, top, range(30))
                    records = moved_record(draw, kept_records(draw, device, 24, 0), draw.choice((1, 2, 50)))
                    found.add(self.check(top, records, rising))
                self.assertIn(False, found)

    def test_two_memories_their_join_and_their_meeting(self):
        draw = drawing(234)
        found = {(much == 0, self.check(top, crossed_records(draw, top, much), False))
                 for top in SMALL_TOPS for much in (0, 0, 0, 1, 2, 20) for _ in range(8)}
        self.assertIn((False, False), found)
        # The sums of the join and the meeting, and of the two: 0 and 1.
        for first, second, join, meeting in (((3, 1), (2,), (3, 1, 2), (2, 1)), ((4, 1), (3,), (4, 1, 3), (3, 1)),
                                             ((4, 2), (3,), (4, 2, 3), (3, 2)), ((4, 1), (2,), (4, 1, 2), (2, 1))):
            records = [(list(first), 5, 6), (list(second), 2, 2), (list(join), 7, 7), (list(meeting), 1, 3)]
            self.assertTrue(self.check(4, records, False))
            records[3] = (list(meeting), 2, 3)
            self.assertFalse(self.check(4, records, False))

    def test_rising(self):
        # An output may not be less with more switches on.
        for top in SMALL_TOPS:
            for up, down in all_switches(top):
                on, off = ([up, down + 1] if down + 1 < up else [up]), [up, down]
                self.assertEqual([self.check(top, [(on, 0, 3), (off, 3, 4)], rising) for rising in BOTH], [True, True])
                self.assertEqual([self.check(top, [(on, 0, 3), (off, 4, 4)], rising) for rising in BOTH], [True, False])
                self.assertEqual([self.check(top, [(off, 0, 3), (on, 4, 4)], rising) for rising in BOTH], [True, True])

    def test_two_records_of_one_memory(self):
        for first, second in (([], [0]), ([2, 1], [1, 2, 1]), ([3, 1, 2, 1], [3, 1])):
            for low, is_there in ((2, True), (3, True), (4, False), (9999, False)):
                for rising in BOTH:
                    self.assertEqual(self.check(3, [(first, 1, 3), (second, low, 9999)], rising), is_there)
                    self.assertEqual(self.check(3, [(second, low, 9999), (first, 1, 3)], rising), is_there)

    def test_no_records(self):
        for top in SMALL_TOPS:
            for rising in BOTH:
                self.assertTrue(self.check(top, [], rising))

    def test_the_ends_of_what_may_be(self):
        for rising in BOTH:
            self.assertTrue(self.check(2, [([], -9999, -9999), ([2, 1], 9999, 9999)], rising))
            self.assertTrue(self.check(2, [([], -9999, 9999), ([2, 1], -9999, 9999)] * 12, rising))
        self.assertFalse(self.check(2, [([], 9999, 9999), ([2, 1], -9999, -9999)], True))
        # The numbers of a fit may be of any size.
        records = [([1], 9999, 9999), ([], -9999, -9999), ([2, 1], -9999, -9999), ([2], 9999, 9999)]
        self.assertTrue(self.check(2, records, False))
        self.assertEqual(wide_fit(2, records, False).weights()[2, 0], -19998)

    def test_in_any_order_and_again(self):
        for top, records in all_drawn_records(235, 20):
            for rising in BOTH:
                told = self.check(top, records, rising)
                self.assertEqual(self.check(top, records[::-1], rising), told)
                self.assertEqual(wide_fit(top, records, rising), wide_fit(top, records, rising))
                self.assertEqual(wide_bars(top, records, rising), wide_bars(top, records, rising))

    def test_new_each_time(self):
        told = wide_bars(3, TORN, False)
        told.clear()
        self.assertTrue(are_wide_bars(3, TORN, wide_bars(3, TORN, False), False))
        wide_fit(4, RECORDS, False).weights().clear()
        self.assertTrue(keeps_all(wide_fit(4, RECORDS, False), RECORDS, False))

    def test_long_histories(self):
        records = [([4, 1, 3, 2, 0] * 500 + history, low, high) for history, low, high in TORN]
        for rising in BOTH:
            self.assertFalse(self.check(4, records, rising))
            self.assertTrue(self.check(4, records[:3], rising))


class KeepsAllTest(WideCase):
    def check(self, device, records, rising):
        told = keeps_all(device, records, rising)
        self.assertIs(told, keeps_by_words(device, records, rising))
        return told

    def test_drawn_devices(self):
        draw = drawing(236)
        for top in SMALL_TOPS:
            found = set()
            for _ in range(40):
                device = draw.choice((drawn_device(draw, top, range(-50, 51)), drawn_rising(draw, top, range(50))))
                records = kept_records(draw, device, draw.randint(0, 24), 3)
                for rising in BOTH:
                    found.add((rising, self.check(device, records, rising)))
                    if records:
                        found.add((rising, self.check(device, moved_record(draw, records, 4), rising)))
            self.assertEqual(found, {(rising, told) for rising in BOTH for told in BOTH})

    def test_one_thing_changed(self):
        device = made_device(4, 2, {(1, 0): 5, (3, 1): 0, (4, 2): 7, (3, 2): 1})
        for history in ([], [1], [3], [4], [4, 2, 3], [3, 1, 2]):
            output = output_by_words(device, history)
            for low, high, expected in ((output, output, True), (output, output + 1, True), (output - 1, output, True),
                                        (output + 1, output + 1, False), (output - 1, output - 1, False),
                                        (output - 90, output - 1, False), (output + 1, output + 90, False)):
                for rising in BOTH:
                    self.assertIs(keeps_all(device, [([1], 7, 7), (history, low, high)], rising), expected)

    def test_weights_below_0(self):
        for switch in all_switches(4):
            device = made_device(4, 0, {switch: -1, (4, 3) if switch != (4, 3) else (1, 0): 5})
            self.assertEqual([keeps_all(device, [([], 0, 0)], rising) for rising in BOTH], [True, False])
            self.assertEqual([keeps_all(device, [], rising) for rising in BOTH], [True, False])
            self.assertEqual([keeps_all(device, [([], 1, 1)], rising) for rising in BOTH], [False, False])

    def test_a_base_below_0(self):
        device = Device.parse("1 -5\n1 0 5")
        self.assertEqual([keeps_all(device, [([1], 0, 0)], rising) for rising in BOTH], [True, True])


class AreWideBarsTest(WideCase):
    def check(self, top, records, numbers, rising):
        told = are_wide_bars(top, records, numbers, rising)
        self.assertIs(told, are_wide_bars_by_words(top, records, numbers, rising))
        return told

    def test_example(self):
        self.assertEqual([are_wide_bars(4, RECORDS, [0, -1, 1], rising) for rising in BOTH], [False, True])

    def test_one_number_changed(self):
        found = set()
        for top, records in all_drawn_records(237, 60):
            for rising in BOTH:
                numbers = wide_bars(top, records, rising)
                if numbers is None:
                    continue
                self.assertTrue(self.check(top, records, numbers, rising))
                found.add(("other", rising, self.check(top, records, numbers, not rising)))
                self.assertTrue(self.check(top, records, [GREAT * number for number in numbers], rising))
                self.assertFalse(self.check(top, records, [-number for number in numbers], rising))
                for index in range(len(numbers)):
                    for step in (1, -1):
                        changed = list(numbers)
                        changed[index] += step
                        found.add(("one", rising, self.check(top, records, changed, rising)))
                        changed[index - 1] -= step
                        found.add(("two", rising, self.check(top, records, changed, rising)))
        # The sum of all numbers is not 0 any more if one is changed.
        self.assertEqual(found, {("one", False, False), ("one", True, False), ("two", False, True),
                                 ("two", False, False), ("two", True, True), ("two", True, False),
                                 ("other", False, True), ("other", True, True), ("other", True, False)})

    def test_one_record_changed(self):
        for rising in BOTH:
            numbers = wide_bars(3, TORN, rising)
            self.assertTrue(self.check(3, TORN, numbers, rising))
            found = set()
            for index in range(4):
                history, low, high = TORN[index]
                for record in ((history, low - 1, high), (history, low, high + 1), (history, low - 9, high + 9)):
                    found.add(self.check(3, TORN[:index] + [record] + TORN[index + 1:], numbers, rising))
            self.assertIn(False, found)

    def test_a_least_sum_of_0(self):
        records = [([2], 3, 5), ([1, 2], 5, 7), ([0, 2], 6, 7)]
        for rising in BOTH:
            self.assertFalse(self.check(2, records, [0, 0, 0], rising))
            self.assertFalse(self.check(2, records, [-1, 1, 0], rising))
            self.assertTrue(self.check(2, records, [-1, 0, 1], rising))
            self.assertTrue(self.check(2, records, [-3, 1, 2], rising))
            self.assertFalse(self.check(2, records, [1, 0, -1], rising))
            self.assertFalse(self.check(2, [], [], rising))

    def test_sums_over_switches_below_0(self):
        # [1] has one switch on more than []: rising, its output is no less.
        records = [([1], 0, 1), ([], 3, 5)]
        self.assertEqual([self.check(2, records, [-1, 1], rising) for rising in BOTH], [False, True])
        records = [([], 0, 1), ([1], 3, 5)]
        self.assertEqual([self.check(2, records, [-1, 1], rising) for rising in BOTH], [False, False])

    def test_other_kinds(self):
        for rising in BOTH:
            told = partial(are_wide_bars, 4, RECORDS)
            for value in NO_LISTS + ([], [0, -1], [0, -1, 1, 0], (0, -1, 1), {0: 0, 1: -1, 2: 1}, nested(50),
                                     [0, -1, [1]], [[0, -1, 1]], [0, -1, "1"]):
                self.check_told(False, told, value, rising)
            for value in NO_INTEGERS:
                self.check_told(False, told, [value, -1, 1], rising)
                self.check_told(False, told, [0, -1, value], rising)
        self.check_told(True, partial(are_wide_bars, 4, RECORDS), [0, -1, 1], True)


class WrongRecordsTest(WideCase):
    def test_all_functions(self):
        self.check_records_errors([
            lambda records: wide_fit(3, records, False), lambda records: wide_bars(3, records, True),
            lambda records: keeps_all(Device.parse("3 0"), records, False),
            lambda records: are_wide_bars(3, records, [0], True)])

    def test_ahead_of_other_values(self):
        for value in NO_RECORDS:
            for rising in BOTH:
                with self.assertRaises(BadRecords) as caught:
                    are_wide_bars(3, [([], 0, 0), value], None, rising)
                self.assertEqual(caught.exception.index, 1)

    def test_twenty_four_records(self):
        for rising in BOTH:
            self.assertIsNotNone(wide_fit(3, [([1], -9999, 9999)] * 24, rising))
            self.assertIsNotNone(wide_bars(3, [([1], -9999, 0)] * 23 + [([1], 1, 9999)], rising))

    def test_levels_of_other_tops(self):
        for top in SMALL_TOPS:
            self.assertIsNotNone(wide_fit(top, [([top], 0, 0)], False))
            device = Device.parse(f"{top} 0")
            for function in (lambda records: wide_fit(top, records, False),
                             lambda records: keeps_all(device, records, True)):
                self.check_error(BadRecords, {"index": 1}, function, [([top], 0, 0), ([top + 1], 0, 0)])


class InterfaceTest(unittest.TestCase):
    def test_by_name(self):
        device = wide_fit(top=4, records=RECORDS, rising=False)
        self.assertIs(keeps_all(device=device, records=RECORDS, rising=False), True)
        numbers = wide_bars(top=4, records=RECORDS, rising=True)
        self.assertIs(are_wide_bars(top=4, records=RECORDS, numbers=numbers, rising=True), True)

    def test_defined_in_their_file(self):
        for function in (wide_fit, wide_bars, keeps_all, are_wide_bars):
            self.assertEqual(function.__module__, "turnweights.wide")
            self.assertIs(getattr(module, function.__name__), function)


if __name__ == "__main__":
    unittest.main()
