"""Points 4, 5 and 7: devices, their texts, sums and multiples."""

import unittest
from itertools import product

from by_words import OTHER_VALUES, TOPS, all_switches
from turnweights import devices
from turnweights.devices import Device, added, multiplied
from turnweights.errors import InvalidText, OtherTops, WeightError

EXAMPLE = "2 10\n1 0 1\n2 0 2\n2 1 4"
EDGES = (-9999, -9998, -1000, -999, -100, -10, -9, -1, 1, 9, 10, 100, 999, 1000, 9998, 9999)


def text_of(top, base, weights):
    return "\n".join([f"{top} {base}"] + [f"{up} {down} {weights[up, down]}" for up, down in sorted(weights)])


def some_weights(top, seed):
    """Weights for all switches, or for some of them, that depend on the seed."""
    found = {}
    for place, switch in enumerate(all_switches(top)):
        weight = EDGES[(place * 5 + seed * 3) % len(EDGES)]
        if seed == 0 or (place + seed) % 3:
            found[switch] = weight
    return found


def some_parts():
    for top in TOPS:
        yield top, 0, {}
        for seed, base in enumerate((0,) + EDGES):
            yield top, base, some_weights(top, seed)


class TextTest(unittest.TestCase):
    def test_example(self):
        device = Device.parse(EXAMPLE)
        self.assertEqual([device.top, device.base, device.weights()], [2, 10, {(1, 0): 1, (2, 0): 2, (2, 1): 4}])
        self.assertEqual(str(device), EXAMPLE)

    def test_texts_are_told_again(self):
        for top, base, weights in some_parts():
            text = text_of(top, base, weights)
            with self.subTest(text=text):
                device = Device.parse(text)
                self.assertEqual(str(device), text)
                self.assertEqual((device.top, device.base, device.weights()), (top, base, weights))

    def test_every_choice_of_switches(self):
        for kept in product((False, True), repeat=6):
            weights = {switch: 5 for switch, stays in zip(all_switches(3), kept) if stays}
            text = text_of(3, -7, weights)
            with self.subTest(text=text):
                self.assertEqual(str(Device.parse(text)), text)
                self.assertEqual(Device.parse(text).weights(), weights)

    def test_every_number(self):
        for number in range(-9999, 10000):
            device = Device.parse(f"1 {number}")
            self.assertEqual((device.base, str(device)), (number, f"1 {number}"))
            if number:
                device = Device.parse(f"1 0\n1 0 {number}")
                self.assertEqual((device.weights(), str(device)), ({(1, 0): number}, f"1 0\n1 0 {number}"))

    def test_kinds_of_values(self):
        device = Device.parse(text=EXAMPLE)
        numbers = [device.top, device.base]
        for switch, weight in device.weights().items():
            self.assertIs(type(switch), tuple)
            numbers.extend([switch[0], switch[1], weight])
        self.assertEqual({type(number) for number in numbers}, {int})
        self.assertIs(type(str(device)), str)
        self.assertIs(type(device.weights()), dict)

    def test_weights_are_new_each_time(self):
        device = Device.parse(EXAMPLE)
        told = device.weights()
        self.assertIsNot(told, device.weights())
        told[1, 0] = 77
        del told[2, 1]
        told.clear()
        self.assertEqual(device.weights(), {(1, 0): 1, (2, 0): 2, (2, 1): 4})
        self.assertEqual(str(device), EXAMPLE)

    def test_parse_by_the_class_and_by_an_object(self):
        self.assertEqual(str(Device.parse("1 0").parse("2 3")), "2 3")
        self.assertIn("parse", vars(Device))
        self.assertIsInstance(vars(Device)["parse"], staticmethod)
        for name in ("weights", "__str__", "__eq__"):
            self.assertIn(name, vars(Device))


class WrongTextTest(unittest.TestCase):
    def check(self, text, row):
        with self.subTest(text=repr(text)[:60]):
            with self.assertRaises(InvalidText) as caught:
                Device.parse(text)
            self.assertEqual(caught.exception.row, row)
            self.assertIsInstance(caught.exception, WeightError)
            self.assertIsInstance(caught.exception, ValueError)

    def test_no_strings(self):
        for value in OTHER_VALUES + ([], ["1 0"], (), ("1 0",), b"1 0", [EXAMPLE]):
            self.check(value, 0)

    def test_first_rows(self):
        for row in ("", " ", "1", "1 ", " 1 0", "1 0 ", "1  0", "1\t0", "1 0 0", "1 0 1", "1,0", "1 x", "x 0", "None",
                    "0 0", "7 0", "-1 0", "+1 0", "01 0", "1 00", "1 01", "1 -0", "1 +1", "1 -", "1 --1", "1 - 1",
                    "1 -01", "1 -00", "1 10000", "1 -10000", "1 99999", "10 0", "1 0.0", "1 1e3", "1 1_0", "1 0x1",
                    "1_ 0", "1\r0", "1 0\r", "1 0\x00", "\ufeff1 0", "1\u00a00", "1\u20030", "\u0661 0",
                    "1 \u0661", "1 \uff11", "1 \u00b2", "1 \u22121", "1 \u0967", "True 0", "1 1-", "1 1 "):
            self.check(row, 0)
            self.check(row + "\n1 0 5", 0)

    def test_huge_numbers(self):
        for many in (5, 6, 100, 4300, 4301, 9000):
            for sign in ("", "-"):
                self.check(f"1 {sign}{'9' * many}", 0)
                self.check(f"1 {sign}{'0' * many}", 0)
                self.check(f"{sign}{'1' * many} 0", 0)
                self.check(f"1 0\n1 0 {sign}{'9' * many}", 1)
                self.check(f"1 0\n1 0 {'0' * many}1", 1)
                self.check(f"1 0\n{'1' * many} 0 1", 1)
                self.check(f"1 0\n1 {'0' * many} 1", 1)

    def test_rows_of_weights(self):
        for row in ("", " ", "1", "1 0", "1 0 ", "1 0 5 ", " 1 0 5", "1  0 5", "1 0  5", "1\t0\t5", "1 0 5 6",
                    "1 0 0", "1 0 -0", "1 0 00", "1 0 +5", "1 0 05", "1 0 -05", "1 0 --5", "1 0 -", "1 0 - 5",
                    "01 0 5", "1 00 5", "+1 0 5", "1 +0 5", "1 -0 5", "-1 0 5", "1 -1 5",
                    "0 0 5", "0 1 5", "1 1 5", "3 0 5", "3 2 5", "2 2 5", "1 2 5", "2 3 5", "10 0 5", "1 10 5",
                    "1 0 10000", "1 0 -10000", "1 0 100000", "1 0 5.0", "1 0 x", "x 0 5", "1 x 5", "1 0 5\r",
                    "1 0 5\x0b", "1 0 5\x1c", "1 0 5\u2028", "1\u00a00 5", "1 0 \u0665", "\u0661 0 5", "1 \uff10 5",
                    "1 0 \u00b2", "1,0,5", "1 0 1_0", "(1, 0) 5"):
            self.check("2 3\n" + row, 1)
            self.check("2 3\n" + row + "\n2 0 4\n2 1 4", 1)

    def test_later_rows(self):
        for row in ("", "2 1", "2 1 0", "2 1 -0", "2 1 +4", "2 1 04", "2 1 10000", "2 2 4", "3 1 4", "2 1 4 ", "2 1 4 1",
                    "1 0 4", "2 0 4", "0 0 4"):
            self.check("2 10\n1 0 1\n2 0 2\n" + row, 3)
            self.check("2 10\n1 0 1\n2 0 2\n" + row + "\n" + row, 3)

    def test_a_row_left_out(self):
        self.check("1 0 5", 0)
        self.check("1 0 5\n1 0 6", 0)
        self.check("2 10\n\n1 0 1", 1)
        self.check("2 10\n1 0 1\n\n2 0 2", 2)
        self.check("\n2 10\n1 0 1", 0)

    def test_rows_doubled(self):
        rows = EXAMPLE.split("\n")
        for place in range(4):
            self.check("\n".join(rows[:place + 1] + rows[place:]), place + 1)

    def test_rows_exchanged(self):
        rows = EXAMPLE.split("\n")
        self.check("\n".join([rows[1], rows[0], rows[2], rows[3]]), 0)
        self.check("\n".join([rows[0], rows[2], rows[1], rows[3]]), 2)
        self.check("\n".join([rows[0], rows[1], rows[3], rows[2]]), 3)
        self.check("\n".join([rows[0], rows[3], rows[2], rows[1]]), 2)

    def test_rows_exchanged_for_all_tops(self):
        for top in TOPS[1:]:
            switches = all_switches(top)
            for place in range(len(switches) - 1):
                order = switches[:place] + [switches[place + 1], switches[place]] + switches[place + 2:]
                rows = [f"{top} 0"] + [f"{up} {down} 1" for up, down in order]
                self.check("\n".join(rows), place + 2)

    def test_trailing_newlines(self):
        self.check("2 10\n", 1)
        self.check(EXAMPLE + "\n", 4)
        self.check(EXAMPLE + "\n\n", 4)
        self.check("\n", 0)

    def test_other_line_ends(self):
        for end in ("\r\n", "\r", "\n\r", "\x0b", "\x0c", "\x1c", "\x1d", "\x1e", "\x85", "\u2028", "\u2029"):
            self.check("2 10" + end, 1 if end == "\n\r" else 0)
            self.check("2 10\n1 0 1" + end, 2 if end == "\n\r" else 1)
            self.check("2 10\n1 0 1" + end + "2 0 2", 2 if end == "\n\r" else 1)

    def test_first_of_several_wrong_rows(self):
        self.check("2 10\n1 0 1\n2 0 0\n1 0 1\nx", 2)
        self.check("9 10\n1 0 0", 0)
        self.check("2 10\n2 1 4\n1 0 1\n\n", 2)

    def test_switches_beyond_the_top(self):
        for top in TOPS:
            for up, down in product(range(9), repeat=2):
                if down < up <= top:
                    self.assertEqual(Device.parse(f"{top} 0\n{up} {down} 1").weights(), {(up, down): 1})
                else:
                    self.check(f"{top} 0\n{up} {down} 1", 1)


class EqualityTest(unittest.TestCase):
    TEXTS = ("1 0", "2 0", "2 10", "2 -10", "2 10\n1 0 1", "2 10\n1 0 -1", "2 10\n2 0 1", "2 10\n2 1 1",
             "2 10\n1 0 1\n2 0 2", "2 10\n1 0 2\n2 0 1", "3 10\n1 0 1\n2 0 2", "2 11\n1 0 1\n2 0 2", EXAMPLE)

    def test_equal_just_with_one_text(self):
        for first, second in product(self.TEXTS, repeat=2):
            with self.subTest(first=first, second=second):
                self.assertIs(Device.parse(first) == Device.parse(second), first == second)
                self.assertIs(Device.parse(first) != Device.parse(second), first != second)

    def test_made_in_other_ways(self):
        one = added(Device.parse("2 0\n2 1 4"), Device.parse("2 10\n1 0 1\n2 0 2"))
        other = added(Device.parse("2 10\n1 0 1\n2 0 2"), Device.parse("2 0\n2 1 4"))
        for device in (one, other):
            self.assertTrue(device == Device.parse(EXAMPLE))
            self.assertFalse(device != Device.parse(EXAMPLE))
            self.assertEqual(str(device), EXAMPLE)
            self.assertEqual(device.weights(), Device.parse(EXAMPLE).weights())

    def test_no_other_value_is_equal(self):
        device = Device.parse(EXAMPLE)
        for value in OTHER_VALUES + ("", EXAMPLE, [EXAMPLE], (2, 10), [2, 10, device.weights()], device.weights(),
                                     Device, (device,), [device]):
            with self.subTest(value=repr(value)[:60]):
                self.assertIs(device == value, False)
                self.assertIs(value == device, False)
                self.assertIs(device != value, True)
                self.assertIs(value != device, True)

    def test_equal_to_itself(self):
        device = Device.parse(EXAMPLE)
        self.assertIs(device == device, True)
        self.assertIs(device != device, False)


class SumTest(unittest.TestCase):
    def test_sums(self):
        for top in TOPS:
            for first_seed, second_seed in product(range(4), repeat=2):
                first = {switch: weight // 3 for switch, weight in some_weights(top, first_seed).items() if weight // 3}
                second = {switch: weight // 3 for switch, weight in some_weights(top, second_seed).items() if weight // 3}
                one = Device.parse(text_of(top, 4000, first))
                other = Device.parse(text_of(top, -17, second))
                total = {switch: first.get(switch, 0) + second.get(switch, 0) for switch in all_switches(top)}
                total = {switch: weight for switch, weight in total.items() if weight}
                self.assertEqual(str(added(one, other)), text_of(top, 3983, total))
                self.assertEqual(added(one, other).weights(), total)
                self.assertEqual(str(one), text_of(top, 4000, first))
                self.assertEqual(str(other), text_of(top, -17, second))

    def test_weights_that_become_0_are_left_out(self):
        total = added(Device.parse("2 5\n1 0 1\n2 0 7"), Device.parse("2 -5\n1 0 -1\n2 1 3"))
        self.assertEqual((total.base, total.weights(), str(total)), (0, {(2, 0): 7, (2, 1): 3}, "2 0\n2 0 7\n2 1 3"))
        nothing = added(Device.parse(EXAMPLE), multiplied(Device.parse(EXAMPLE), -1))
        self.assertEqual((nothing.weights(), str(nothing)), ({}, "2 0"))
        self.assertTrue(nothing == Device.parse("2 0"))

    def test_a_device_and_itself(self):
        device = Device.parse(EXAMPLE)
        self.assertEqual(str(added(device, device)), "2 20\n1 0 2\n2 0 4\n2 1 8")
        self.assertEqual(str(device), EXAMPLE)

    def test_results_share_nothing(self):
        device = Device.parse(EXAMPLE)
        for result in (added(device, Device.parse("2 0")), added(Device.parse("2 0"), device), multiplied(device, 1)):
            result.weights().clear()
            self.assertEqual((str(result), str(device)), (EXAMPLE, EXAMPLE))

    def test_by_name(self):
        total = added(first=Device.parse("2 3\n2 1 1"), second=Device.parse("2 4\n1 0 2"))
        self.assertEqual(str(total), "2 7\n1 0 2\n2 1 1")
        self.assertEqual(str(multiplied(device=total, number=3)), "2 21\n1 0 6\n2 1 3")

    def test_other_tops(self):
        for first, second in product(TOPS, repeat=2):
            one = Device.parse(f"{first} 1\n1 0 2")
            other = Device.parse(f"{second} 1\n1 0 3")
            if first == second:
                self.assertEqual(str(added(one, other)), f"{first} 2\n1 0 5")
                continue
            with self.assertRaises(OtherTops) as caught:
                added(one, other)
            self.assertIsInstance(caught.exception, WeightError)
            self.assertEqual((str(one), str(other)), (f"{first} 1\n1 0 2", f"{second} 1\n1 0 3"))


class MultipleTest(unittest.TestCase):
    def test_multiples(self):
        for number in (-2499, -10, -2, -1, 0, 1, 2, 10, 2499):
            device = Device.parse("2 -3\n1 0 1\n2 0 -2\n2 1 4")
            result = multiplied(device, number)
            weights = {(1, 0): number, (2, 0): -2 * number, (2, 1): 4 * number} if number else {}
            self.assertEqual((result.top, result.base, result.weights()), (2, -3 * number, weights))
            self.assertEqual(str(result), text_of(2, -3 * number, weights))
            self.assertEqual(str(device), "2 -3\n1 0 1\n2 0 -2\n2 1 4")

    def test_by_0_and_by_1(self):
        for top, base, weights in some_parts():
            device = Device.parse(text_of(top, base, weights))
            self.assertEqual(str(multiplied(device, 0)), f"{top} 0")
            self.assertTrue(multiplied(device, 1) == device)
            self.assertTrue(multiplied(multiplied(device, -1), -1) == device)


class InterfaceTest(unittest.TestCase):
    def test_defined_in_their_file(self):
        for name in ("Device", "added", "multiplied"):
            self.assertEqual(getattr(devices, name).__module__, "turnweights.devices")


if __name__ == "__main__":
    unittest.main()
