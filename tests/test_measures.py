"""Points 15 and 16, and what point 31 says of measures: fits, devices, bars, and what measures settle."""

import unittest
from functools import partial
from itertools import product
from math import gcd

from by_words import TOPS, all_switches, are_bars_by_words, are_divided_by_words, drawing, drawn_device
from by_words import drawn_history, is_fit_by_words, memories_by_words, on_after, output_by_words, sums_by_words
from turnweights import measures as module
from turnweights.devices import Device, added, multiplied
from turnweights.errors import BadLevels, BadRecords, NoFit
from turnweights.measures import bars, divided_bars, fit, settled, settling, unsettled, whole_fit
from turnweights.outputs import curves, device_of, output_after, outputs_along
from wrong_values import NO_HISTORIES, NO_INTEGERS, NO_LISTS, ValuesCase, nested

GREAT = 10 ** 995
HALVES = [([4, 1], 0), ([3, 2], 0), ([3, 1], 0), ([5, 1, 4, 2], 1), ([4, 2, 3], 0), ([5, 1, 3], 0)]
AGAINST = [([1], 5), ([2, 0, 1], 6)]


def measures_of(device, histories):
    return [(history, output_by_words(device, history)) for history in histories]


def drawn_histories(draw, top, most):
    return [drawn_history(draw, top, 8) for _ in range(draw.randint(0, most))]


def divided_measures(draw, top, divisor):
    """Measures of weights that are fractions of switches: of the memories with outputs that are integers."""
    device = drawn_device(draw, top, [0, 0, 1, divisor - 1])
    outputs = {memory: output_by_words(device, memory) for memory in memories_by_words(top)}
    return [(list(memory), outputs[memory] // divisor) for memory in outputs if outputs[memory] % divisor == 0]


def kinds(value):
    """The kinds of a value and of all that lies within it."""
    if type(value) is dict:
        return {dict}.union(*map(kinds, value), *map(kinds, value.values()))
    if type(value) in (list, tuple):
        return {type(value)}.union(*map(kinds, value))
    return {type(value)}


class MeasuresCase(unittest.TestCase):
    def check_fit(self, top, measures, told):
        self.assertIs(type(told), tuple)
        self.assertEqual(len(told), 3)
        bottom, base, weights = told
        self.assertIs(type(weights), dict)
        self.assertEqual(kinds(told) - {dict, tuple}, {int})
        self.assertGreaterEqual(bottom, 1)
        self.assertLessEqual(set(weights), set(all_switches(top)))
        self.assertNotIn(0, weights.values())
        self.assertTrue(is_fit_by_words(top, measures, bottom, base, weights), (top, measures, told))

    def check_numbers(self, measures, numbers):
        self.assertIs(type(numbers), list)
        self.assertEqual(len(numbers), len(measures))
        self.assertEqual({type(number) for number in numbers} | {int}, {int})

    def check(self, top, measures):
        """Just one of a fit and bars, and just one of a device, bars and divided bars; tells which."""
        some_fit, some_bars = fit(top, measures), bars(top, measures)
        device, divided = whole_fit(top, measures), divided_bars(top, measures)
        self.assertEqual((some_fit is None) + (some_bars is None), 1, (top, measures))
        self.assertEqual((device is None) + (some_bars is None) + (divided is None), 2, (top, measures))
        if some_fit is not None:
            self.check_fit(top, measures, some_fit)
        if some_bars is not None:
            self.check_numbers(measures, some_bars)
            self.assertTrue(are_bars_by_words(top, measures, some_bars), (top, measures, some_bars))
            return "bars"
        if divided is not None:
            self.assertIs(type(divided), tuple)
            number, numbers = divided
            self.check_numbers(measures, numbers)
            self.assertIs(type(number), int)
            self.assertGreaterEqual(number, 2)
            self.assertTrue(are_divided_by_words(top, measures, number, numbers), (top, measures, divided))
            self.assertGreaterEqual(top, 5)
            return "divided"
        self.assertIs(type(device), Device)
        self.assertEqual(device.top, top)
        self.assertEqual(measures_of(device, [history for history, _ in measures]), measures)
        return "device"


class FitTest(MeasuresCase):
    def test_example(self):
        self.assertEqual([bars(5, HALVES), fit(5, HALVES) is None, whole_fit(5, HALVES)], [None, False, None])
        self.assertEqual(self.check(5, HALVES), "divided")
        self.assertEqual(self.check(6, HALVES), "divided")

    def test_no_measures(self):
        for top in TOPS:
            self.assertEqual(self.check(top, []), "device")

    def test_one_measure(self):
        for top in TOPS:
            for memory in memories_by_words(top):
                for output in (-5, 0, 1):
                    self.assertEqual(self.check(top, [(list(memory), output)]), "device")

    def test_measures_of_devices(self):
        draw = drawing(30)
        for top in TOPS:
            for _ in range(12):
                device = drawn_device(draw, top)
                measures = measures_of(device, drawn_histories(draw, top, 40))
                self.assertEqual(self.check(top, measures), "device")

    def test_all_memories(self):
        draw = drawing(31)
        for top in TOPS:
            device = drawn_device(draw, top)
            histories = [list(memory) for memory in memories_by_words(top)]
            draw.shuffle(histories)
            measures = measures_of(device, histories)
            self.assertEqual(self.check(top, measures), "device")
            self.assertEqual(whole_fit(top, measures), device)

    def test_one_output_changed(self):
        draw = drawing(32)
        for top in TOPS:
            found = set()
            for _ in range(16):
                measures = measures_of(drawn_device(draw, top), drawn_histories(draw, top, 6 * top) + [[], [top]])
                at = draw.randrange(len(measures))
                measures[at] = (measures[at][0], measures[at][1] + draw.choice([-1, 1, 6]))
                found.add(self.check(top, measures))
            self.assertEqual(found - {"divided"}, {"device", "bars"})

    def test_one_of_all_memories_changed(self):
        for top in (3, 4, 5):
            device = drawn_device(drawing(33), top)
            measures = measures_of(device, [list(memory) for memory in memories_by_words(top)])
            found = set()
            for at, (history, output) in enumerate(measures):
                changed = measures[:at] + [(history, output + 1)] + measures[at + 1:]
                found.add(self.check(top, changed))
            self.assertEqual(found, {"device", "bars"})

    def test_one_history_twice(self):
        draw = drawing(34)
        for top in TOPS:
            device = drawn_device(draw, top)
            for _ in range(5):
                measures = measures_of(device, drawn_histories(draw, top, 12))
                history = drawn_history(draw, top, 8)
                output = output_by_words(device, history)
                more = [(history, output), ([0] + history, output)]
                self.assertEqual(self.check(top, measures + more), "device")
                self.assertEqual(self.check(top, more + measures), "device")
                for other in (output + 1, output - 2, GREAT):
                    self.assertEqual(self.check(top, measures + more + [(history, other)]), "bars")
                    self.assertEqual(self.check(top, [(history, other)] + measures + more), "bars")
        self.assertEqual(self.check(3, AGAINST), "bars")
        self.assertEqual(self.check(3, AGAINST + [([1], 7), ([1], 8)]), "bars")

    def test_drawn_outputs(self):
        draw = drawing(35)
        for top in TOPS:
            found = set()
            for _ in range(40):
                measures = [(history, draw.randint(0, 1)) for history in drawn_histories(draw, top, 3 * top)]
                found.add(self.check(top, measures))
            self.assertEqual(found - {"divided"}, {"device", "bars"})

    def test_great_outputs(self):
        draw = drawing(36)
        for top in TOPS:
            device = drawn_device(draw, top)
            measures = [(history, output * GREAT + 3)
                        for history, output in measures_of(device, drawn_histories(draw, top, 30))]
            self.assertEqual(self.check(top, measures), "device")
            self.assertEqual(self.check(top, measures + [([], 1), ([0], GREAT)]), "bars")
        great = [(history, output * (2 * GREAT + 1)) for history, output in HALVES]
        self.assertEqual(self.check(5, great), "divided")

    def test_many_measures(self):
        device = drawn_device(drawing(37), 4)
        measures = measures_of(device, [[level % 5, level % 3, level % 2 + 1] for level in range(1500)])
        self.assertEqual(self.check(4, measures), "device")
        self.assertEqual(self.check(4, measures + [([1], device.base - 10000)]), "bars")

    def test_long_histories(self):
        measures = [([1, 2] * 4000, 5), ([2, 1] * 4000, 6), ([2], 6)]
        self.assertEqual(self.check(2, measures), "bars")


class DividedTest(MeasuresCase):
    def test_halves(self):
        draw = drawing(38)
        for top in (5, 6):
            found = [self.check(top, divided_measures(draw, top, 2)) for _ in range(60)]
            self.assertEqual(set(found), {"device", "divided"})

    def test_thirds(self):
        draw = drawing(39)
        found = [self.check(6, divided_measures(draw, 6, 3)) for _ in range(150)]
        self.assertEqual(set(found), {"device", "divided"})

    def test_never_for_small_tops(self):
        draw = drawing(40)
        for top in (1, 2, 3, 4):
            for divisor in (2, 2, 3, 4, 6):
                for _ in range(20):
                    self.assertEqual(self.check(top, divided_measures(draw, top, divisor)), "device")

    def test_example_changed(self):
        draw = drawing(41)
        for _ in range(20):
            device = drawn_device(draw, 5)
            moved = [(history, output + output_by_words(device, history)) for history, output in HALVES]
            draw.shuffle(moved)
            self.assertEqual(self.check(5, moved), "divided")
            self.assertEqual(self.check(5, moved[1:]), "device")
            self.assertEqual(self.check(5, [(history, 2 * output) for history, output in moved]), "device")
            self.assertEqual(self.check(5, [(history, 3 * output) for history, output in moved]), "divided")

    def test_not_where_there_are_bars(self):
        self.assertEqual(self.check(5, HALVES + [([4, 1], 7)]), "bars")
        self.assertIsNone(divided_bars(3, AGAINST))

    def test_one_above_the_other(self):
        higher = [([level + 1 for level in history], output) for history, output in HALVES]
        self.assertEqual(self.check(6, higher), "divided")


class WholeFitTest(unittest.TestCase):
    def test_like_other_devices(self):
        device = drawn_device(drawing(42), 3)
        great = multiplied(device, GREAT)
        told = curves(great)
        found = whole_fit(3, [([], great.base)] + [(list(pair), told[pair]) for pair in told])
        self.assertEqual(found, great)
        self.assertEqual(str(found), str(great))
        self.assertNotEqual(found, device)
        self.assertEqual((found.top, found.base, found.weights()), (3, great.base, great.weights()))
        self.assertEqual(curves(found), told)
        self.assertEqual(device_of(3, found.base, told), found)
        self.assertEqual(output_after(found, [3, 1, 2]), GREAT * output_after(device, [3, 1, 2]))
        self.assertEqual(outputs_along(found, (), [3, 0]), outputs_along(great, (), [3, 0]))
        self.assertEqual(added(found, multiplied(found, -1)), Device.parse("3 0"))
        self.assertEqual(multiplied(found, 2), added(great, great))

    def test_no_weights_of_0(self):
        found = whole_fit(2, [([], 4), ([1], 4), ([2], 9), ([2, 1], 9)])
        self.assertEqual((str(found), found.weights()), ("2 4\n2 0 5", {(2, 0): 5}))


class SettledTest(MeasuresCase):
    def check_settled(self, top, measures, history):
        """Tells the fraction if the output after a history is settled, otherwise None."""
        output = settled(top, measures, history)
        shown = settling(top, measures, history)
        fits = unsettled(top, measures, history)
        self.assertEqual(output is None, shown is None)
        self.assertEqual(output is None, fits is not None)
        on = on_after(top, history)
        if fits is not None:
            self.assertIs(type(fits), tuple)
            self.assertEqual(len(fits), 2)
            for some_fit in fits:
                self.check_fit(top, measures, some_fit)
            totals = [base + sum(weights[switch] for switch in weights if switch in on) for _, base, weights in fits]
            self.assertNotEqual(totals[0] * fits[1][0], totals[1] * fits[0][0])
            return None
        bottom, numbers = shown
        self.assertEqual((type(shown), type(bottom), type(output), len(output)), (tuple, int, tuple, 2))
        self.check_numbers(measures, numbers)
        self.assertGreaterEqual(bottom, 1)
        expected = [bottom] + [bottom if switch in on else 0 for switch in all_switches(top)]
        self.assertEqual(sums_by_words(top, [some for some, _ in measures], numbers), expected)
        total = sum(number * told for number, (_, told) in zip(numbers, measures))
        self.assertEqual(output[0] * bottom, output[1] * total)
        self.assertEqual((output[1] >= 1, gcd(*output), kinds(output)), (True, 1, {int, tuple}))
        return output

    def test_no_measures(self):
        for top in TOPS:
            for memory in memories_by_words(top):
                self.assertIsNone(self.check_settled(top, [], list(memory)))

    def test_measures_themselves(self):
        draw = drawing(43)
        for top in TOPS:
            measures = measures_of(drawn_device(draw, top), drawn_histories(draw, top, 20))
            for history, output in measures:
                self.assertEqual(self.check_settled(top, measures, history), (output, 1))
                self.assertEqual(self.check_settled(top, measures, [top, 0] + history), (output, 1))

    def test_all_curves(self):
        draw = drawing(44)
        for top in TOPS:
            device = drawn_device(draw, top)
            told = curves(device)
            measures = [([], device.base)] + [(list(pair), told[pair]) for pair in told]
            for memory in memories_by_words(top):
                output = output_by_words(device, memory)
                self.assertEqual(self.check_settled(top, measures, list(memory)), (output, 1))

    def test_one_curve_less(self):
        told = curves(drawn_device(drawing(45), 4))
        for left in told:
            measures = [(list(pair), told[pair]) for pair in told if pair != left] + [([], 8)]
            self.assertIsNone(self.check_settled(4, measures, list(left)))

    def test_drawn_measures(self):
        draw = drawing(46)
        for top in TOPS:
            found = set()
            for _ in range(8):
                device = drawn_device(draw, top)
                measures = measures_of(device, drawn_histories(draw, top, 4 * top))
                for _ in range(10):
                    history = drawn_history(draw, top, 8)
                    output = self.check_settled(top, measures, history)
                    found.add(output is None)
                    self.assertIn(output, (None, (output_by_words(device, history), 1)))
            self.assertEqual(found, {True, False})

    def test_joins_and_meetings_settle_each_other(self):
        measures = [([3, 1], 5), ([2], 7), ([3, 1, 2], 11)]
        self.assertEqual(self.check_settled(3, measures, [2, 1]), (1, 1))
        self.assertIsNone(self.check_settled(3, measures, [1]))

    def test_example(self):
        outputs = [self.check_settled(5, HALVES, list(memory)) for memory in memories_by_words(5)]
        fractions = [output for output in outputs if output is not None and output[1] > 1]
        self.assertEqual({bottom for _, bottom in fractions}, {2})

    def test_fractions(self):
        for top, divisor, seed, many in ((5, 2, 38, 80), (6, 2, 47, 8), (6, 3, 39, 150)):
            draw = drawing(seed)
            bottoms = set()
            for _ in range(many):
                measures = divided_measures(draw, top, divisor)
                if whole_fit(top, measures) is None:
                    for memory in memories_by_words(top):
                        output = self.check_settled(top, measures, list(memory))
                        bottoms.add(output[1] if output else 1)
            self.assertEqual(bottoms, {1, divisor})

    def test_negative_and_0(self):
        self.assertEqual(self.check_settled(2, [([1], 0)], [2, 0, 1]), (0, 1))
        self.assertEqual(self.check_settled(2, [([1], -6), ([2], 4)], [1]), (-6, 1))
        great = [(history, -output * GREAT) for history, output in HALVES]
        outputs = [self.check_settled(5, great, list(memory)) for memory in memories_by_words(5)]
        self.assertTrue(any(output and output[0] < 0 for output in outputs))

    def test_one_history_twice(self):
        measures = [([1], 5), ([1], 5), ([2, 0, 1], 5), ([2], 6)]
        self.assertEqual(self.check_settled(2, measures, [1]), (5, 1))
        self.assertEqual(self.check_settled(2, measures, [2]), (6, 1))
        self.assertIsNone(self.check_settled(2, measures, []))


# Measures for the top 3 that are wrong first at an index.
NO_MEASURES = tuple((value, 0) for value in NO_LISTS) + tuple(([value], 0) for value in NO_LISTS) + tuple(
    ([([1], 5), ([1], 6), ([2], value)], 2) for value in NO_INTEGERS) + tuple(
    ([([1], 5), (value, 5), ([4], 5)], 1) for value, _ in NO_HISTORIES) + (
    ([[[1], 5]], 0), ([([1],)], 0), ([([1], 5, 5)], 0), ([(5, [1])], 0), ([([1], 5), ([1], 6), ([0, 4], 5)], 2),
    ([nested(50)], 0), (nested(50), 0), ([([1], 5)] * 500 + [([0, 0, 0, 4], 5)], 500))


class WrongValuesTest(ValuesCase):
    def test_measures(self):
        for measures, index in NO_MEASURES:
            for function in (fit, bars, whole_fit, divided_bars):
                self.check_error(BadRecords, {"index": index}, partial(function, 3), measures)
            for function in (settled, settling, unsettled):
                for history in ([1], [4], None):
                    self.check_error(BadRecords, {"index": index}, partial(function, 3), measures, history)

    def test_histories(self):
        for function in (settled, settling, unsettled):
            for history, index in NO_HISTORIES:
                for measures in ([], [([1], 5)], AGAINST):
                    self.check_error(BadLevels, {"index": index}, partial(function, 3), measures, history)

    def test_no_fit(self):
        for function in (settled, settling, unsettled):
            for measures in (AGAINST, HALVES + [([4, 1], 7)], HALVES[:2] + HALVES[1:] + [([3, 2], 1)]):
                for history in ([], [1], [3, 1], [1, 0]):
                    self.check_error(NoFit, {}, partial(function, 5), measures, history)
            self.check_told(None, lambda measures, history: function(5, measures, history) and None, HALVES, [1])

    def test_levels_of_other_tops(self):
        for top in TOPS:
            for function in (fit, bars, whole_fit, divided_bars):
                self.check_error(BadRecords, {"index": 1}, partial(function, top), [([top], 5), ([top + 1], 5)])
            for function in (settled, settling, unsettled):
                self.check_error(BadLevels, {"index": 1}, partial(function, top), [([top], 5)], [top, top + 1])
            self.check_told((5, 1), partial(settled, top), [([top], 5)], [0, top])

    def test_right_values_stay(self):
        for measures in (HALVES, AGAINST, [], [([1], 5)]):
            for function in (fit, bars, divided_bars):
                self.check_told(function(5, measures), partial(function, 5), measures)
            self.check_told(str(whole_fit(5, measures)), lambda some: str(whole_fit(5, some)), measures)
        for history in ([4, 1], [2], [5, 1, 4, 2, 3]):
            for function in (settled, settling, unsettled):
                self.check_told(function(5, HALVES, history), partial(function, 5), HALVES, history)


class NewEachTimeTest(unittest.TestCase):
    def test_lists_and_dicts(self):
        measures = [([1], 5), ([2], 7), ([2, 1], 8)]
        fit(2, measures)[2].clear()
        self.assertNotEqual(fit(2, measures)[2], {})
        bars(2, AGAINST).clear()
        self.assertEqual(len(bars(2, AGAINST)), 2)
        divided_bars(5, HALVES)[1].clear()
        self.assertEqual(len(divided_bars(5, HALVES)[1]), 6)
        settling(2, measures, [1])[1].clear()
        self.assertEqual(len(settling(2, measures, [1])[1]), 3)
        first, second = unsettled(2, measures, [])
        self.assertIsNot(first[2], second[2])
        first[2].clear()
        second[2].clear()
        for told in unsettled(2, measures, []):
            self.assertTrue(is_fit_by_words(2, measures, *told))


class InterfaceTest(unittest.TestCase):
    def test_by_name(self):
        measures = [([1], 5)]
        self.assertTrue(is_fit_by_words(1, measures, *fit(top=1, measures=measures)))
        self.assertIsNone(bars(top=1, measures=measures))
        self.assertIs(type(whole_fit(top=1, measures=measures)), Device)
        self.assertIsNone(divided_bars(top=1, measures=measures))
        self.assertEqual(settled(top=1, measures=measures, history=[1]), (5, 1))
        self.assertEqual(settling(top=1, measures=measures, history=[1]), (1, [1]))
        self.assertIsNone(unsettled(top=1, measures=measures, history=[1]))

    def test_defined_in_their_file(self):
        for function in (fit, bars, whole_fit, divided_bars, settled, settling, unsettled):
            self.assertEqual(function.__module__, "turnweights.measures")
            self.assertIs(getattr(module, function.__name__), function)


if __name__ == "__main__":
    unittest.main()
