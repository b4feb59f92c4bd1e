"""Point 40: facts about wide measures."""

import unittest
from fractions import Fraction

from by_words import drawing, drawn_device, drawn_history, memories_by_words, on_after, output_by_words
from turnweights.desks import torn_records
from turnweights.measures import fit, settled
from turnweights.memories import joined, met
from turnweights.ranges import span
from turnweights.stretches import stretch
from turnweights.wide import are_wide_bars, wide_bars, wide_fit
from wide_words import SMALL_TOPS, all_drawn_records, drawn_rising, kept_records, moved_record

BOTH = (False, True)


def exact_records(seed, many):
    """Pairs of a top and records with low equal to high, kept by some device or not."""
    draw = drawing(seed)
    for top in SMALL_TOPS:
        for _ in range(many):
            device = draw.choice((drawn_device(draw, top, range(-30, 31)), drawn_rising(draw, top, range(30))))
            records = kept_records(draw, device, draw.randint(1, 3 * top), 0)
            for history, low, _ in moved_record(draw, records, 1)[:1] if draw.randrange(2) else []:
                records.append((history, low, low))
            yield top, records


def spans_of(top, records, rising):
    return {memory: span(top, records, list(memory), rising) for memory in memories_by_words(top)}


def is_within(inner, outer):
    """Whether a range is within another one, None being open."""
    return ((outer[0] is None or inner[0] is not None and inner[0] >= outer[0])
            and (outer[1] is None or inner[1] is not None and inner[1] <= outer[1]))


class ExactTest(unittest.TestCase):
    def test_fits(self):
        found = set()
        for top, records in exact_records(280, 60):
            measures = [(history, low) for history, low, _ in records]
            told = wide_fit(top, records, False) is not None
            self.assertEqual(told, fit(top, measures) is not None)
            found.add(told)
        self.assertEqual(found, {True, False})

    def test_ranges(self):
        found = set()
        for top, records in exact_records(281, 30):
            measures = [(history, low) for history, low, _ in records]
            if wide_fit(top, records, False) is None:
                continue
            for memory, told in spans_of(top, records, False).items():
                output = settled(top, measures, list(memory))
                expected = (None, None)
                if output is not None:
                    self.assertEqual(output[1], 1)
                    expected = (output[0], output[0])
                self.assertEqual(told, expected)
                found.add(output is None)
        self.assertEqual(found, {True, False})


class MoreRecordsTest(unittest.TestCase):
    def test_no_range_is_wider(self):
        draw = drawing(282)
        for rising in BOTH:
            found = set()
            for top, records in all_drawn_records(283, 25):
                if wide_fit(top, records, rising) is None or len(records) == 24:
                    continue
                before = spans_of(top, records, rising)
                history = drawn_history(draw, top, 4)
                least, greatest = span(top, records, history, rising)
                low = draw.choice((least, greatest, 0))
                low = 0 if low is None else low + draw.choice((-3, 0, 3))
                more = [*records, (history, max(-9999, min(9999, low)), 9999)]
                if wide_fit(top, more, rising) is None:
                    continue
                for memory, told in spans_of(top, more, rising).items():
                    self.assertTrue(is_within(told, before[memory]))
                    found.add(told == before[memory])
            self.assertEqual(found, {True, False})


class MovedTest(unittest.TestCase):
    def moved(self, records, device):
        return [(history, low + output_by_words(device, history), high + output_by_words(device, history))
                for history, low, high in records]

    def test_stretches_and_bars_stay(self):
        draw = drawing(284)
        found = set()
        for top, records in all_drawn_records(285, 40):
            if any(max(-low, high) > 9000 for _, low, high in records):
                continue
            moved = self.moved(records, drawn_device(draw, top, range(-60, 61)))
            told = stretch(top, records, False)
            self.assertEqual(stretch(top, moved, False), told)
            numbers = wide_bars(top, records, False)
            found.add(numbers is None)
            if numbers is not None:
                self.assertTrue(are_wide_bars(top, moved, numbers, False))
            else:
                self.assertIsNone(wide_bars(top, moved, False))
        self.assertEqual(found, {True, False})

    def test_ranges_are_moved(self):
        draw = drawing(286)
        for top in SMALL_TOPS:
            device = drawn_device(draw, top, range(-60, 61))
            records = kept_records(draw, device, 8, 3)
            after = spans_of(top, self.moved(records, device), False)
            for memory, told in spans_of(top, records, False).items():
                more = output_by_words(device, memory)
                self.assertEqual(after[memory], tuple(None if end is None else end + more for end in told))

    def test_not_so_for_rising_ones(self):
        records = [([], 0, 0), ([1], 0, 0)]
        moved = [([], 0, 0), ([1], -2, -2)]
        self.assertEqual([stretch(1, each, True) for each in (records, moved)], [(0, 1), (1, 1)])
        self.assertEqual([wide_bars(1, each, True) for each in (records, moved)], [None, [1, -1]])


class JoinTest(unittest.TestCase):
    def test_the_greatest_output_after_a_join(self):
        for rising in BOTH:
            many = 0
            for top, records in all_drawn_records(287, 25):
                if wide_fit(top, records, rising) is None:
                    continue
                spans = spans_of(top, records, rising)
                for first in spans:
                    for second in spans:
                        ends = (spans[first][1], spans[second][1], spans[met(top, first, second)][0])
                        if None not in ends:
                            greatest = spans[joined(top, first, second)][1]
                            self.assertIsNotNone(greatest)
                            self.assertLessEqual(greatest, ends[0] + ends[1] - ends[2])
                            many += 1
            self.assertGreater(many, 100)


class NumbersTest(unittest.TestCase):
    def test_stretches(self):
        for rising in BOTH:
            for top, records in all_drawn_records(288, 60):
                self.assertEqual((24 * Fraction(*stretch(top, records, rising))).denominator, 1)

    def test_torn_records(self):
        draw = drawing(289)
        may_be = {1: {2}, 2: {2}, 3: {2, 4}, 4: {2, 4, 6, 8}}
        for rising in BOTH:
            found = {top: set() for top in SMALL_TOPS}
            for top, records in all_drawn_records(290, 60):
                torn = torn_records(top, records, rising)
                found[top].update([] if torn is None else [len(torn)])
            for top in SMALL_TOPS:
                for _ in range(120):
                    some = draw.sample(memories_by_words(top), draw.randint(2, min(12, 2 ** top)))
                    outputs = [draw.randint(-1, 1) for _ in some]
                    torn = torn_records(top, [(list(memory), output, output) for memory, output in zip(some, outputs)],
                                        rising)
                    found[top].update([] if torn is None else [len(torn)])
            for top in SMALL_TOPS:
                self.assertLessEqual(found[top], may_be[top])
                self.assertLessEqual({2, 4} if top > 2 else {2}, found[top])


class RisingTest(unittest.TestCase):
    def test_ends_are_never_less_with_more_switches_on(self):
        found = set()
        for top, records in all_drawn_records(291, 25):
            if wide_fit(top, records, True) is None:
                continue
            spans = spans_of(top, records, True)
            for first in spans:
                for second in spans:
                    if on_after(top, first) <= on_after(top, second):
                        least, greatest = spans[first]
                        more_least, more_greatest = spans[second]
                        self.assertTrue(least is None or more_least is not None and more_least >= least)
                        self.assertTrue(more_greatest is None or greatest is not None and more_greatest >= greatest)
                        found.add((least is None, greatest is None, more_least is None, more_greatest is None))
        self.assertGreater(len(found), 5)


if __name__ == "__main__":
    unittest.main()
