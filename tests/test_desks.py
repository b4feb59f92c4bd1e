"""Points 37 and 39: torn records, and desks."""

import unittest
from functools import partial

from by_words import drawing, drawn_history, memories_by_words
from turnweights import desks as module
from turnweights.desks import Desk, torn_records
from turnweights.devices import Device
from turnweights.errors import BadLevels, BadPlace, BadRecords, NoFit, UnknownMark
from turnweights.memories import memories
from turnweights.ranges import span
from turnweights.wide import wide_bars, wide_fit
from wide_words import EIGHT, GREAT, RECORDS, SMALL_TOPS, TORN, WideCase, all_drawn_records, are_wide_bars_by_words
from wide_words import drawn_records, keeps_by_words
from wrong_values import NO_HISTORIES, NO_INTEGERS, NO_LISTS, nested

BOTH = (False, True)


def has_fit(top, records, rising):
    """Whether there is a fit, as either a fit or bars show."""
    device = wide_fit(top, records, rising)
    if device is None:
        assert are_wide_bars_by_words(top, records, wide_bars(top, records, rising), rising)
        return False
    assert keeps_by_words(device, records, rising)
    return True


def are_torn_by_words(top, records, indexes, rising):
    """Point 37, for an ascending list of indexes of records."""
    some = [records[index] for index in indexes]
    return not has_fit(top, some, rising) and all(
        has_fit(top, some[:place] + some[place + 1:], rising) for place in range(len(some)))


class TornCase(WideCase):
    def check_torn(self, top, records, rising):
        """How many torn records there are; None if there is a fit."""
        kept = repr(records)
        told = torn_records(top, records, rising)
        self.assertEqual(repr(records), kept)
        if has_fit(top, records, rising):
            self.assertIsNone(told)
            return None
        self.assertIs(type(told), list)
        self.assertTrue(all(type(index) is int and 0 <= index < len(records) for index in told))
        self.assertEqual(told, sorted(set(told)))
        self.assertTrue(are_torn_by_words(top, records, told, rising))
        return len(told)


class TornTest(TornCase):
    def test_some_records(self):
        for rising in BOTH:
            self.assertEqual(torn_records(3, TORN[:3], rising), None)
            self.assertEqual(torn_records(3, [], rising), None)
            self.assertEqual(torn_records(3, [([1], 0, 1), ([2], 5, 5), ([1], 2, 3)], rising), [0, 2])
        self.assertEqual(torn_records(3, TORN, False), [0, 1, 2, 3])
        self.assertEqual([torn_records(4, RECORDS, rising) for rising in BOTH], [None, [1, 2]])
        self.assertEqual(torn_records(4, EIGHT, False), list(range(8)))
        self.assertEqual(torn_records(4, [([3], -5, 5), *EIGHT[:4], ([1, 4], 0, 0), *EIGHT[4:]], False),
                         [1, 2, 3, 4, 6, 7, 8, 9])

    def test_drawn_records(self):
        for rising in BOTH:
            found = {self.check_torn(top, records, rising) for top, records in all_drawn_records(270, 60)}
            self.assertLessEqual({None, 2}, found)

    def test_of_exact_outputs(self):
        draw = drawing(271)
        for rising, expected in ((False, {None, 4, 6}), (True, {None, 2, 4})):
            found = set()
            for _ in range(300):
                some = draw.sample(memories_by_words(4), draw.randint(6, 12))
                outputs = [draw.randint(-1, 1) for _ in some]
                records = [(list(memory), output, output) for memory, output in zip(some, outputs)]
                found.add(self.check_torn(4, records, rising))
            self.assertLessEqual(expected, found)

    def test_in_any_order_and_again(self):
        for top, records in all_drawn_records(272, 20):
            for rising in BOTH:
                self.assertEqual(torn_records(top, records, rising), torn_records(top, records, rising))
                self.check_torn(top, records[::-1], rising)

    def test_new_each_time(self):
        torn_records(3, TORN, False).clear()
        self.assertEqual(torn_records(3, TORN, False), [0, 1, 2, 3])

    def test_wrong_records(self):
        self.check_records_errors([lambda records: torn_records(3, records, False),
                                   lambda records: torn_records(3, records, True)])


class DeskCase(TornCase):
    def check_any(self, top, rising, desk, records):
        """A fit, bars and torn records are right ones, or None; records are tuples (number, history, low, high)."""
        wide = [record[1:] for record in records]
        device, numbers, torn = desk.fit(), desk.bars(), desk.torn()
        if not has_fit(top, wide, rising):
            self.assertIsNone(device)
            self.check_numbers(wide, numbers)
            self.assertTrue(are_wide_bars_by_words(top, wide, numbers, rising))
            self.assertEqual((type(torn), torn), (list, sorted(set(torn))))
            indexes = [[record[0] for record in records].index(number) for number in torn]
            self.assertTrue(are_torn_by_words(top, wide, indexes, rising))
            return False
        self.assertEqual((numbers, torn), (None, None))
        self.assertIs(type(device), Device)
        self.assertTrue(keeps_by_words(device, wide, rising))
        return True

    def check(self, top, rising, desk, records):
        """The desk tells all that a list of its records does; tells whether there is a fit."""
        self.assertEqual(repr(desk.records()), repr(records))
        wide = [record[1:] for record in records]
        if not self.check_any(top, rising, desk, records):
            self.check_error(NoFit, {}, partial(desk.span, []))
            self.check_error(NoFit, {}, desk.open_memories)
            self.check_error(NoFit, {}, desk.widest)
            return False
        spans = {memory: span(top, wide, list(memory), rising) for memory in memories(top)}
        for memory in spans:
            self.assertEqual(repr(desk.span(list(memory))), repr(spans[memory]))
        open_ones = [memory for memory in spans if None in spans[memory]]
        self.assertEqual(repr(desk.open_memories()), repr(open_ones))
        widest = desk.widest()
        if open_ones:
            self.assertIsNone(widest)
        else:
            most = max(greatest - least for least, greatest in spans.values())
            self.assertEqual(spans[widest][1] - spans[widest][0], most)
        return True


class DeskTest(DeskCase):
    def test_example(self):
        desk = Desk(1, False)
        told = [desk.put([], 0, 1), desk.put([1], 3, 4), desk.put([0], 2, 2), desk.torn(), desk.take_out(0),
                desk.span([1, 0])]
        self.assertEqual(told, [0, 1, 2, [0, 2], None, (2, 2)])

    def test_empty(self):
        for top in SMALL_TOPS:
            for rising in BOTH:
                desk = Desk(top, rising)
                self.assertTrue(self.check(top, rising, desk, []))
                self.assertEqual([desk.records(), desk.bars(), desk.torn(), desk.widest()], [[], None, None, None])
                self.assertEqual(desk.open_memories(), memories(top))

    def test_put_and_take_out(self):
        for rising in BOTH:
            desk, records = Desk(4, rising), []
            for number, (history, low, high) in enumerate(EIGHT):
                self.assertEqual(repr(desk.put(history, low, high)), repr(number))
                records.append((number, history, low, high))
                self.check(4, rising, desk, records)
            for number in (3, 0, 7, 5):
                self.assertIsNone(desk.take_out(number))
                records = [record for record in records if record[0] != number]
                self.check(4, rising, desk, records)
                self.check_error(BadPlace, {}, desk.take_out, number)
            # The numbers count what was put on, also what was taken off.
            self.assertEqual(desk.put([1], 0, 0), 8)
            self.check(4, rising, desk, [*records, (8, [1], 0, 0)])

    def test_drawn_calls(self):
        draw = drawing(273)
        for top in SMALL_TOPS:
            for rising in BOTH:
                desk, records, many, found = Desk(top, rising), [], 0, set()
                for history, low, high in [record for _ in range(20) for record in drawn_records(draw, top, 6)][:60]:
                    if len(records) < 12:
                        self.assertEqual(desk.put(history, low, high), many)
                        records.append((many, history, low, high))
                        many += 1
                    for _ in range(draw.choice((0, 0, 1, 2))):
                        if records:
                            number = draw.choice(records)[0]
                            desk.take_out(number)
                            records = [record for record in records if record[0] != number]
                    found.add(self.check(top, rising, desk, records))
                self.assertEqual(found, {True, False})

    def test_the_widest(self):
        for rising in BOTH:
            desk = Desk(2, rising)
            for history, low, high in (([], 0, 1), ([1], 2, 5), ([2], 6, 8), ([2, 1], 4, 6)):
                desk.put(history, low, high)
            self.assertEqual([desk.open_memories(), desk.widest()], [[], (1,)])
            desk.put([2, 0, 1], 4, 5)
            self.assertIn(desk.widest(), [(2,), (2, 1)])
            desk.put([2], 7, 7)
            self.assertEqual(desk.widest(), (2, 1))

    def test_open_memories(self):
        desk = Desk(2, True)
        desk.put([], 0, 1)
        self.assertEqual([desk.open_memories(), desk.span([2])], [[(1,), (2,), (2, 1)], (0, None)])
        desk.put([2], 5, 6)
        self.assertEqual([desk.open_memories(), desk.span([1])], [[], (0, 6)])
        desk = Desk(2, False)
        desk.put([], 0, 1)
        desk.put([2], 5, 6)
        self.assertEqual([desk.open_memories(), desk.span([1])], [[(1,), (2, 1)], (None, None)])

    def test_asked_in_any_order_and_again(self):
        for rising in BOTH:
            desk = Desk(3, rising)
            desk.put([3], 5, 9)
            desk.put([2, 1], 0, 4)
            calls = [desk.fit, desk.bars, desk.torn, desk.records, desk.open_memories, desk.widest,
                     lambda: desk.span([3, 1])]
            told = [call() for call in calls]
            self.assertEqual([call() for call in reversed(calls)], told[::-1])
            self.assertEqual([call() for call in calls + calls], told + told)

    def test_twenty_four_records(self):
        for rising in BOTH:
            desk, records = Desk(3, rising), []
            for number in range(24):
                self.assertEqual(desk.put([number % 4], -number, 90 + number), number)
                records.append((number, [number % 4], -number, 90 + number))
            for _ in range(2):
                self.check_error(BadRecords, {"index": 24}, desk.put, [1], 0, 5)
            self.check(3, rising, desk, records)
            desk.take_out(7)
            self.assertEqual(desk.put([1], 0, 5), 24)
            self.check_error(BadRecords, {"index": 25}, desk.put, [1], 0, 5)
            self.check_error(BadLevels, {"index": 0}, desk.put, [4], 0, 5)
            self.check(3, rising, desk, records[:7] + records[8:] + [(24, [1], 0, 5)])


class MarksTest(DeskCase):
    def test_numbers(self):
        desk = Desk(2, False)
        self.assertEqual([desk.mark(), desk.mark(), desk.mark()], [0, 1, 2])
        self.assertIsNone(desk.back(1))
        self.assertEqual([desk.mark(), desk.mark()], [2, 3])
        desk.back(0)
        self.assertEqual(repr(desk.mark()), "1")

    def test_back(self):
        for rising in BOTH:
            desk = Desk(3, rising)
            desk.mark()
            desk.put([1], 0, 2)
            desk.put([2], 3, 4)
            desk.take_out(0)
            self.assertEqual(desk.mark(), 1)
            for _ in range(3):
                self.assertEqual(desk.put([3], 9, 9), 2)
                desk.take_out(1)
                self.assertEqual(desk.put([1, 1], 0, 0), 3)
                desk.back(1)
                self.check(3, rising, desk, [(1, [2], 3, 4)])
            desk.back(0)
            self.check(3, rising, desk, [])
            self.check_error(UnknownMark, {"number": 1}, desk.back, 1)
            self.assertEqual([desk.put([1], 0, 2), desk.mark()], [0, 1])

    def test_back_behind_a_full_desk(self):
        desk = Desk(1, False)
        for _ in range(23):
            desk.put([], 0, 9)
        desk.mark()
        self.assertEqual(desk.put([1], 5, 5), 23)
        self.check_error(BadRecords, {"index": 24}, desk.put, [1], 6, 6)
        desk.back(0)
        self.assertEqual([desk.put([1], 6, 6), desk.span([1])], [23, (6, 6)])

    def test_drawn_marks(self):
        draw = drawing(274)
        for top in SMALL_TOPS:
            for rising in BOTH:
                desk, records, many, marks = Desk(top, rising), [], 0, []
                for _ in range(40):
                    what = draw.randrange(5)
                    if what == 0:
                        self.assertEqual(desk.mark(), len(marks))
                        marks.append((list(records), many))
                    elif what == 1 and marks:
                        number = draw.randrange(len(marks))
                        desk.back(number)
                        del marks[number + 1:]
                        records, many = list(marks[number][0]), marks[number][1]
                    elif what == 2 and records:
                        desk.take_out(records.pop(draw.randrange(len(records)))[0])
                    else:
                        record = (drawn_history(draw, top, 4), draw.randint(-5, 0), draw.randint(0, 5))
                        self.assertEqual(desk.put(*record), many)
                        records.append((many, *record))
                        many += 1
                    self.check(top, rising, desk, records)
                    self.check_error(UnknownMark, {"number": len(marks)}, desk.back, len(marks))


class WrongValuesTest(DeskCase):
    def setUp(self):
        self.desk = Desk(3, False)
        self.desk.put([1], 0, 5)
        self.desk.put([2], 0, 5)
        self.desk.take_out(0)

    def tearDown(self):
        self.check(3, False, self.desk, [(1, [2], 0, 5)])
        self.assertEqual([self.desk.put([3], 0, 0), self.desk.mark()], [2, 0])

    def test_histories(self):
        for value, index in NO_HISTORIES:
            for low, high in ((0, 1), (1, 0), (None, 10000)):
                self.check_error(BadLevels, {"index": index}, self.desk.put, value, low, high)
            self.check_error(BadLevels, {"index": index}, self.desk.span, value)

    def test_bounds(self):
        for value in NO_INTEGERS + (10000, -10000, GREAT, -GREAT, [[5]], nested(50)):
            self.check_error(BadRecords, {"index": 2}, self.desk.put, [1], value, 5)
            self.check_error(BadRecords, {"index": 2}, self.desk.put, [1], 5, value)
            self.check_error(BadRecords, {"index": 2}, self.desk.put, [1], value, value)
        for low, high in ((1, 0), (9999, -9999), (0, -1)):
            self.check_error(BadRecords, {"index": 2}, self.desk.put, [1], low, high)

    def test_numbers(self):
        for value in NO_INTEGERS + NO_LISTS + (2, 3, -1, GREAT, -GREAT, [[1]], nested(50)):
            if value != 1 or isinstance(value, bool):
                self.check_error(BadPlace, {}, self.desk.take_out, value)
        self.check_error(BadPlace, {}, self.desk.take_out, 0)

    def test_marks(self):
        for value in NO_INTEGERS + (0, -1, 1, GREAT, nested(50)):
            self.check_error(UnknownMark, {"number": value}, self.desk.back, value)

    def test_marks_beyond(self):
        desk = Desk(2, True)
        desk.mark()
        desk.put([1], 0, 1)
        for value in NO_INTEGERS + (-1, 1, GREAT, -GREAT, nested(50)):
            self.check_error(UnknownMark, {"number": value}, desk.back, value)
        self.assertEqual([desk.records(), desk.mark()], [[(0, [1], 0, 1)], 1])

    def test_no_fit(self):
        for rising in BOTH:
            desk = Desk(3, rising)
            for record in TORN:
                desk.put(*record)
            for value, index in NO_HISTORIES:
                self.check_error(BadLevels, {"index": index}, desk.span, value)
            for history in ([], [1], [3, 1, 2]):
                self.check_error(NoFit, {}, desk.span, history)
            self.check_error(NoFit, {}, desk.open_memories)
            self.check_error(NoFit, {}, desk.widest)
            self.assertEqual(len(desk.records()), 4)
            # A record may also be put on if there is no fit.
            self.assertEqual(desk.put([2], 5, 5), 4)
        desk = Desk(4, True)
        for record in RECORDS:
            desk.put(*record)
        self.check_error(NoFit, {}, desk.span, [4, 1])

    def test_levels_of_other_tops(self):
        for top in SMALL_TOPS:
            desk = Desk(top, False)
            self.assertEqual(desk.put([top], 0, 0), 0)
            self.check_error(BadLevels, {"index": 1}, desk.put, [top, top + 1], 0, 0)
            self.check_error(BadLevels, {"index": 1}, desk.span, [top, top + 1])


class CopiesTest(DeskCase):
    def test_what_is_handed_in(self):
        desk, history = Desk(3, False), [2, 1]
        desk.put(history, 0, 5)
        desk.mark()
        history.append(3)
        self.check(3, False, desk, [(0, [2, 1], 0, 5)])
        history.clear()
        desk.back(0)
        self.check(3, False, desk, [(0, [2, 1], 0, 5)])

    def test_what_is_told(self):
        desk = Desk(3, False)
        desk.put([2, 1], 0, 5)
        desk.mark()
        for _ in range(2):
            told = desk.records()
            told[0][1].append(3)
            told.append(None)
            desk.open_memories().clear()
            self.check(3, False, desk, [(0, [2, 1], 0, 5)])
            desk.back(0)
        desk.put([2, 1], 6, 6)
        desk.bars().clear()
        desk.torn().clear()
        told = [desk.records(), desk.bars(), desk.torn()]
        self.check(3, False, desk, [(0, [2, 1], 0, 5), (1, [2, 1], 6, 6)])
        desk.take_out(0)
        # What was told earlier stays.
        self.assertEqual(told, [[(0, [2, 1], 0, 5), (1, [2, 1], 6, 6)], [-1, 1], [0, 1]])
        self.check(3, False, desk, [(1, [2, 1], 6, 6)])

    def test_two_desks(self):
        first, second = Desk(3, False), Desk(3, True)
        first.put([1], 5, 5)
        first.mark()
        self.check(3, True, second, [])
        self.check_error(UnknownMark, {"number": 0}, second.back, 0)
        self.assertEqual(second.put([1], 6, 6), 0)
        self.check(3, False, first, [(0, [1], 5, 5)])


class InterfaceTest(unittest.TestCase):
    def test_by_name(self):
        self.assertEqual(torn_records(top=3, records=TORN, rising=False), [0, 1, 2, 3])
        desk = Desk(top=1, rising=False)
        self.assertEqual(desk.put(history=[], low=0, high=1), 0)
        self.assertEqual(desk.span(history=[0]), (0, 1))
        self.assertEqual(desk.mark(), 0)
        self.assertIsNone(desk.take_out(number=0))
        self.assertIsNone(desk.back(number=0))

    def test_defined_in_their_file(self):
        for thing in (torn_records, Desk):
            self.assertEqual(thing.__module__, "turnweights.desks")
            self.assertIs(getattr(module, thing.__name__), thing)
        for name in ("records", "put", "take_out", "fit", "bars", "torn", "span", "open_memories", "widest", "mark",
                     "back"):
            self.assertIn(name, vars(Desk))


if __name__ == "__main__":
    unittest.main()
