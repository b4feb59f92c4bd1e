"""Points 11 and 12, and what point 31 says of outputs: outputs, curves, and histories that part devices."""

import unittest
from functools import partial
from itertools import combinations, product

from by_words import OTHER_VALUES, TOPS, all_switches, drawing, drawn_device, drawn_history, made_device
from by_words import memories_by_words, memory_by_words, on_after, output_by_words, short_histories
from turnweights import outputs as module
from turnweights.devices import Device, added, multiplied
from turnweights.errors import BadCurves, BadLevels, BadMemory, OtherTops
from turnweights.memories import joined, met
from turnweights.outputs import curves, device_of, output_after, outputs_along, parting_history
from wrong_values import NO_HISTORIES, NO_INTEGERS, NO_LISTS, NO_MEMORIES, ValuesCase, nested

EXAMPLE = Device.parse("2 10\n1 0 1\n2 0 2\n2 1 4")
GREAT = 10 ** 999


def pairs_by_words(top):
    return [(a, b) for a in range(top + 1) for b in range(top + 1) if 1 <= b <= a]


def drawn_devices(seed, many):
    draw = drawing(seed)
    for top in TOPS:
        yield Device.parse(f"{top} {top - 3}")
        for _ in range(many):
            yield drawn_device(draw, top)


class OutputTest(unittest.TestCase):
    def test_examples(self):
        self.assertEqual([curves(EXAMPLE), output_after(EXAMPLE, [2, 1])],
                         [{(1, 1): 11, (2, 1): 13, (2, 2): 17}, 13])
        self.assertEqual([output_after(EXAMPLE, history) for history in ([], [0], [1], [2], [2, 0], [2, 1, 0, 1])],
                         [10, 10, 11, 17, 10, 11])

    def test_after_short_histories(self):
        for device in drawn_devices(1, 2):
            for history in short_histories(device.top, 3):
                self.assertEqual(output_after(device, history), output_by_words(device, history), history)

    def test_after_drawn_histories(self):
        draw = drawing(2)
        for device in drawn_devices(3, 4):
            for _ in range(60):
                history = drawn_history(draw, device.top, 20)
                self.assertEqual(output_after(device, history), output_by_words(device, history), history)

    def test_each_switch_alone(self):
        for top in TOPS:
            for switch in all_switches(top):
                device = made_device(top, 0, {switch: 7})
                for memory in memories_by_words(top):
                    expected = 7 if switch in on_after(top, memory) else 0
                    self.assertEqual(output_after(device, list(memory)), expected)

    def test_along_short_lists(self):
        draw = drawing(4)
        for top in TOPS:
            device = drawn_device(draw, top)
            for memory in memories_by_words(top):
                for levels in short_histories(top, 2 if top < 5 else 1):
                    self.check_along(device, list(memory), levels)

    def test_along_drawn_levels(self):
        draw = drawing(5)
        for device in drawn_devices(6, 3):
            for _ in range(20):
                history = drawn_history(draw, device.top, 20)
                self.check_along(device, history, drawn_history(draw, device.top, 20))

    def check_along(self, device, history, levels):
        told = outputs_along(device, memory_by_words(history), levels)
        expected = [output_by_words(device, history + levels[:many]) for many in range(len(levels) + 1)]
        self.assertEqual(told, expected, (history, levels))

    def test_along_many_levels(self):
        levels = [6, 1, 5, 2, 4, 3, 0] * 3000
        device = drawn_device(drawing(7), 6)
        once = outputs_along(device, (), levels[:7])
        self.assertEqual(outputs_along(device, (), levels), once[:1] + once[1:] * 3000)

    def test_along_is_new_each_time(self):
        told = outputs_along(EXAMPLE, (2,), [1])
        self.assertEqual(told, [17, 13])
        told.clear()
        self.assertEqual(outputs_along(EXAMPLE, (2,), [1]), [17, 13])

    def test_great_numbers(self):
        device = multiplied(EXAMPLE, GREAT)
        self.assertEqual(output_after(device, [2, 1]), 13 * GREAT)
        self.assertEqual(outputs_along(device, (1,), [2, 0]), [11 * GREAT, 17 * GREAT, 10 * GREAT])

    def test_joins_and_meetings(self):
        for device in drawn_devices(8, 1):
            top = device.top
            outputs = {memory: output_after(device, list(memory)) for memory in memories_by_words(top)}
            for first, second in product(outputs, repeat=2):
                together = outputs[joined(top, first, second)] + outputs[met(top, first, second)]
                self.assertEqual(together, outputs[first] + outputs[second])

    def test_sums_and_multiples(self):
        draw = drawing(9)
        for top in TOPS:
            first, second = drawn_device(draw, top), drawn_device(draw, top)
            for _ in range(40):
                history = drawn_history(draw, top, 20)
                outputs = output_by_words(first, history), output_by_words(second, history)
                self.assertEqual(output_after(added(first, second), history), sum(outputs))
                self.assertEqual(output_after(multiplied(first, -3), history), -3 * outputs[0])


class CurvesTest(unittest.TestCase):
    def test_by_the_words(self):
        for device in drawn_devices(10, 5):
            expected = {(a, b): output_by_words(device, [a] if a == b else [a, b])
                        for a, b in pairs_by_words(device.top)}
            self.assertEqual(curves(device), expected)

    def test_new_each_time(self):
        told = curves(EXAMPLE)
        told.clear()
        self.assertEqual(curves(EXAMPLE), {(1, 1): 11, (2, 1): 13, (2, 2): 17})

    def test_kinds_of_values(self):
        told = curves(EXAMPLE)
        self.assertIs(type(told), dict)
        self.assertEqual({type(key) for key in told}, {tuple})
        self.assertEqual({type(number) for key in told for number in (*key, told[key])}, {int})

    def test_the_device_again(self):
        for device in drawn_devices(11, 8):
            told = curves(device)
            self.assertEqual(device_of(device.top, device.base, told), device)
            turned = {key: told[key] for key in reversed(list(told))}
            self.assertEqual(device_of(device.top, device.base, turned), device)

    def test_drawn_curves(self):
        draw = drawing(12)
        for top in TOPS:
            for _ in range(20):
                keys = pairs_by_words(top)
                draw.shuffle(keys)
                some = {key: draw.randint(-1000, 1000) for key in keys}
                base = draw.randint(-1000, 1000)
                device = device_of(top, base, some)
                self.assertEqual(Device.parse(str(device)), device)
                self.assertEqual((device.top, device.base, curves(device)), (top, base, some))
                self.assertEqual(output_by_words(device, []), base)
                for a, b in some:
                    self.assertEqual(output_by_words(device, [a, b]), some[a, b])

    def test_one_number_changed(self):
        for device in drawn_devices(13, 1):
            for key in pairs_by_words(device.top):
                some = curves(device)
                some[key] += 5
                self.assertEqual(curves(device_of(device.top, device.base, some)), some)

    def test_another_base(self):
        for device in drawn_devices(14, 2):
            other = device_of(device.top, device.base + 1, curves(device))
            self.assertEqual((other.base, curves(other)), (device.base + 1, curves(device)))

    def test_the_dict_stays(self):
        some = {(2, 2): 17, (1, 1): 11, (2, 1): 13}
        device = device_of(2, 10, some)
        self.assertEqual(list(some.items()), [((2, 2), 17), ((1, 1), 11), ((2, 1), 13)])
        some[1, 1] = 99
        self.assertEqual(device, EXAMPLE)


class WrongCurvesTest(ValuesCase):
    def check(self, top, value):
        self.check_error(BadCurves, {}, partial(device_of, top, 10), value)

    def test_no_dicts(self):
        for top in TOPS:
            for value in NO_LISTS + ([], [1], [((1, 1), 5)], nested(50)):
                self.check(top, value)

    def test_keys(self):
        for top in TOPS:
            right = {pair: 5 for pair in pairs_by_words(top)}
            for pair in right:
                less = {key: 5 for key in right if key != pair}
                self.check(top, less)
                for key in ((0, 0), (top + 1, 1), (top + 1, top + 1), (top, 0), (1, 2), (-1, -1), (-1, 1), (1, -1),
                            (0, 1), (*pair, 1), pair[:1], (), (pair,), pair[0], None, True, "", str(pair),
                            (str(pair[0]), pair[1]), (pair[0], None), (None, pair[1]), (pair[0], (pair[1],))):
                    if key not in less:
                        self.check(top, {**right, key: 5})
                        self.check(top, {**less, key: 5})

    def test_keys_that_are_true_or_false(self):
        for key in ((True, 1), (1, True), (True, True)):
            self.check(1, {key: 5})
            self.check(2, {(2, 2): 5, key: 5, (2, 1): 5})
        self.check(2, {(2, 2): 5, (1, 1): 5, (2, True): 5})

    def test_numbers(self):
        for top in TOPS:
            for value in NO_INTEGERS:
                for pair in pairs_by_words(top):
                    self.check(top, {**{key: 5 for key in pairs_by_words(top)}, pair: value})

    def test_curves_of_other_tops(self):
        for first, second in product(TOPS, repeat=2):
            if first != second:
                self.check(first, {pair: 5 for pair in pairs_by_words(second)})


class PartingTest(unittest.TestCase):
    def check(self, first, second):
        told = parting_history(first, second)
        if str(first) == str(second):
            self.assertIsNone(told)
            return
        shortest = next(history for history in short_histories(first.top, 2)
                        if output_by_words(first, history) != output_by_words(second, history))
        self.assertIs(type(told), list)
        self.assertEqual(len(told), len(shortest))
        self.assertTrue(all(type(level) is int and 0 <= level <= first.top for level in told))
        self.assertNotEqual(output_by_words(first, told), output_by_words(second, told))

    def test_equal_devices(self):
        for device in drawn_devices(15, 3):
            self.assertIsNone(parting_history(device, device))
            self.assertIsNone(parting_history(device, Device.parse(str(device))))

    def test_other_bases(self):
        for device in drawn_devices(16, 1):
            self.assertEqual(parting_history(device, made_device(device.top, 9, device.weights())), [])
            self.check(device, made_device(device.top, -9, {}))

    def test_one_other_weight(self):
        for device in drawn_devices(17, 1):
            for switch in all_switches(device.top):
                weights = device.weights()
                weights[switch] = weights.get(switch, 0) // 2 + 1
                self.check(device, made_device(device.top, device.base, weights))

    def test_weights_that_cancel(self):
        lengths = set()
        for top in TOPS:
            plain = made_device(top, 4, {})
            for first, second in combinations(all_switches(top), 2):
                other = made_device(top, 4, {first: 6, second: -6})
                self.check(plain, other)
                self.check(other, plain)
                lengths.add(len(parting_history(plain, other)))
        self.assertEqual(lengths, {1, 2})

    def test_small_devices(self):
        draw = drawing(18)
        for top in TOPS:
            for _ in range(60):
                self.check(drawn_device(draw, top, [0, 0, 1]), drawn_device(draw, top, [0, 0, 1]))

    def test_same_outputs_just_if_equal(self):
        devices = [device_of(2, base, dict(zip(pairs_by_words(2), numbers)))
                   for base, *numbers in product((0, 1), repeat=4)]
        for first, second in product(devices, repeat=2):
            same = all(output_by_words(first, history) == output_by_words(second, history)
                       for history in short_histories(2, 4))
            self.assertEqual(parting_history(first, second) is None, same)
            self.assertEqual(first == second, same)

    def test_new_each_time(self):
        other = multiplied(EXAMPLE, 2)
        parting_history(EXAMPLE, other).append(1)
        self.assertEqual(parting_history(EXAMPLE, other), [])

    def test_great_numbers(self):
        first = multiplied(EXAMPLE, GREAT)
        second = added(first, Device.parse("2 0\n2 1 1"))
        self.assertIsNone(parting_history(first, multiplied(EXAMPLE, GREAT)))
        self.assertEqual(parting_history(first, second), [2])

    def test_other_tops(self):
        for first, second in product(TOPS, repeat=2):
            devices = Device.parse(f"{first} 0"), Device.parse(f"{second} 0")
            if first == second:
                self.assertIsNone(parting_history(*devices))
            else:
                with self.assertRaises(OtherTops):
                    parting_history(*devices)


class WrongValuesTest(ValuesCase):
    device = Device.parse("3 0\n2 1 5")

    def test_histories(self):
        for value, index in NO_HISTORIES:
            self.check_error(BadLevels, {"index": index}, partial(output_after, self.device), value)
            self.check_error(BadLevels, {"index": index}, partial(outputs_along, self.device), (3, 1), value)

    def test_memories(self):
        for value in NO_MEMORIES:
            for levels in ([1, 2], [], [4], None):
                self.check_error(BadMemory, {}, partial(outputs_along, self.device), value, levels)

    def test_other_tops(self):
        for top in TOPS:
            device = Device.parse(f"{top} 0")
            self.check_told(0, partial(output_after, device), [0, top])
            self.check_error(BadLevels, {"index": 1}, partial(output_after, device), [0, top + 1])
            self.check_error(BadLevels, {"index": 2}, partial(outputs_along, device), (top,), [0, top, top + 1])
            self.check_error(BadMemory, {}, partial(outputs_along, device), (top + 1,), [top + 1])

    def test_right_values_stay(self):
        self.check_told(5, partial(output_after, self.device), [3, 0, 2])
        self.check_told([5, 0, 0], partial(outputs_along, self.device), (3, 1, 2), [1, 0])


class InterfaceTest(unittest.TestCase):
    def test_by_name(self):
        self.assertEqual(output_after(device=EXAMPLE, history=[2, 1]), 13)
        self.assertEqual(outputs_along(device=EXAMPLE, memory=(2,), levels=[1]), [17, 13])
        self.assertEqual(curves(device=EXAMPLE), {(1, 1): 11, (2, 1): 13, (2, 2): 17})
        self.assertEqual(device_of(top=2, base=10, some_curves={(1, 1): 11, (2, 1): 13, (2, 2): 17}), EXAMPLE)
        self.assertIsNone(parting_history(first=EXAMPLE, second=EXAMPLE))

    def test_defined_in_their_file(self):
        for function in (output_after, outputs_along, curves, device_of, parting_history):
            self.assertEqual(function.__module__, "turnweights.outputs")
            self.assertIs(getattr(module, function.__name__), function)


if __name__ == "__main__":
    unittest.main()
