"""Points 29 and 30: live devices, their work and their sheets."""

import copy
import unittest

from by_words import TOPS, all_switches, drawing, drawn_device, made_device, memories_by_words, memory_by_words
from by_words import on_after, output_by_words, work_by_words
from turnweights import live as module
from turnweights.devices import Device
from turnweights.errors import BadLevels, BadSwitch, BadWeight, UnknownMark
from turnweights.live import Live
from wrong_values import NO_INTEGERS, NO_LISTS, ValuesCase, nested

GREAT = 10 ** 999
NO_LEVELS = NO_INTEGERS + (-1, 4, GREAT, -GREAT, [2], (2,), {2: 2}, nested(50))
NO_SWITCHES = NO_LISTS + (
    [], [2, 1], (2,), (2, 1, 0), (1, 1), (0, 0), (1, 2), (0, 1), (4, 1), (4, 3), (2, -1), (-1, -2), (True, 0),
    (1, False), (2, True), (None, 1), (2, None), ("2", 1), (2, "1"), ((2, 1), 0), ((2, 1),), ([2], 1), (2, [1]),
    (2, {}), (GREAT, 0), (2, -GREAT), nested(50))
NO_WEIGHTS = NO_INTEGERS + (-10000, 10000, GREAT, -GREAT, [[5]], {5: 5}, nested(50))


class Model:
    """A live device by the words of points 6, 20, 22, 29 and 30, switch by switch."""

    def __init__(self, device):
        self.top = device.top
        self.base = device.base
        self.weights = {switch: device.weights().get(switch, 0) for switch in all_switches(self.top)}
        self.on = set()
        self.history = []
        # How often each switch went on.
        self.times = {switch: 0 for switch in all_switches(self.top)}
        self.work = 0
        self.sheet = []

    def device(self):
        return made_device(self.top, self.base, self.weights)

    def memory(self):
        return memory_by_words(self.history)

    def work_of_memory(self):
        return work_by_words(self.device(), [], list(self.memory()))

    def closed(self):
        """Point 22: for each small loop, how often it is closed, as the numbers of times settle it."""
        in_memory = {switch: 0 for switch in all_switches(self.top)}
        memory = self.memory()
        for many in range(len(memory)):
            for switch in on_after(self.top, memory[:many + 1]) - on_after(self.top, memory[:many]):
                in_memory[switch] += 1
        # A loop is within a greater one just if what the smaller one moves, the greater one does, too.
        more = {switch: self.times[switch] - in_memory[switch] for switch in self.times}
        return {(low, high): more[high, low] - more.get((high, low - 1), 0) - more.get((high + 1, low), 0)
                + more.get((high + 1, low - 1), 0) for high, low in all_switches(self.top)}

    def step(self, level):
        before = self.closed()
        work = 0
        for up, down in all_switches(self.top):
            if level >= up and (up, down) not in self.on:
                self.on.add((up, down))
                self.times[up, down] += 1
                work += self.weights[up, down] * up
            elif level <= down and (up, down) in self.on:
                self.on.remove((up, down))
                work -= self.weights[up, down] * down
        # What is ahead of the memory means nothing any more.
        self.history = [*self.memory(), level]
        after = self.closed()
        for low, high in sorted(after):
            if after[low, high] != before[low, high]:
                inner = sum(self.weights[up, down] * (up - down) for up, down in self.weights
                            if low <= down and up <= high)
                self.sheet.append(("loop", (low, high), inner))
        self.work += work
        return work

    def change_weight(self, switch, weight):
        before = self.work_of_memory()
        self.weights[switch] = weight
        amount = before - self.work_of_memory()
        self.sheet.append(("change", switch, amount))
        return amount


class LiveCase(ValuesCase):
    def check(self, live, model):
        """The live device tells all that the model does, and its sheet comes to its work."""
        device = live.device()
        self.assertIs(type(device), Device)
        self.assertEqual(repr((device.top, device.base)), repr((model.top, model.base)))
        self.assertEqual(str(device), str(model.device()))
        self.assertEqual(repr(live.memory()), repr(model.memory()))
        self.assertEqual(repr(live.output()), repr(model.base + sum(model.weights[switch] for switch in model.on)))
        self.assertEqual(repr(live.work()), repr(model.work))
        self.assertEqual(repr(live.sheet()), repr(model.sheet))
        self.assertEqual(model.work, model.work_of_memory() + sum(entry[2] for entry in model.sheet))

    def do(self, draw, live, model, weights=range(-9999, 10000)):
        """A drawn call, of both."""
        what = draw.randrange(8)
        if what == 0:
            base = draw.choice(weights)
            self.assertIsNone(live.change_base(base))
            model.base = base
        elif what < 4:
            switch = draw.choice(all_switches(model.top))
            weight = draw.choice((0, model.weights[switch], draw.choice(weights), draw.choice(weights)))
            self.assertEqual(repr(live.change_weight(switch, weight)), repr(model.change_weight(switch, weight)))
        else:
            level = draw.randint(0, model.top)
            self.assertEqual(repr(live.step(level)), repr(model.step(level)))


class LiveTest(LiveCase):
    def test_example(self):
        live = Live(Device.parse("2 0\n2 1 1"))
        told = [live.step(2), live.change_weight((2, 1), 5), live.step(1), live.work(), live.sheet()]
        self.assertEqual(told, [2, -8, -5, -3, [("change", (2, 1), -8)]])

    def test_at_the_beginning(self):
        for top in TOPS:
            device = drawn_device(drawing(210), top)
            live = Live(device)
            self.check(live, Model(device))
            self.assertEqual([live.memory(), live.output(), live.work(), live.sheet()], [(), device.base, 0, []])

    def test_each_switch_alone(self):
        for top in TOPS:
            for switch in all_switches(top):
                device = made_device(top, 3, {switch: 10})
                live, model = Live(device), Model(device)
                for level in [*range(top + 1), *reversed(range(top + 1)), switch[0], switch[1], switch[0], 0]:
                    self.assertEqual(live.step(level), model.step(level))
                    self.check(live, model)

    def test_short_lists_of_levels(self):
        device = Device.parse("3 5\n1 0 1\n2 0 10\n2 1 100\n3 0 1000\n3 1 -7\n3 2 -90")
        for number in range(4 ** 5):
            live, model = Live(device), Model(device)
            for place in range(5):
                level = number // 4 ** place % 4
                self.assertEqual(live.step(level), model.step(level))
            self.check(live, model)

    def test_drawn_calls(self):
        draw = drawing(211)
        for top in TOPS:
            for weights in (range(-9999, 10000), range(-3, 4), (0, 1)):
                device = drawn_device(draw, top, weights)
                live, model = Live(device), Model(device)
                for _ in range(60):
                    self.do(draw, live, model, weights)
                    self.check(live, model)

    def test_from_each_memory(self):
        draw = drawing(212)
        for top in (1, 2, 3, 4):
            for memory in memories_by_words(top):
                device = drawn_device(draw, top)
                for switch in all_switches(top):
                    live, model = Live(device), Model(device)
                    for level in memory:
                        self.assertEqual(live.step(level), model.step(level))
                    weight = draw.randint(-9999, 9999)
                    self.assertEqual(live.change_weight(switch, weight), model.change_weight(switch, weight))
                    self.check(live, model)

    def test_closed_loops_of_one_level(self):
        device = made_device(6, 0, {switch: 1 for switch in all_switches(6)})
        for levels, loops in (
                ([6, 1, 5, 2, 4, 3, 6], [(1, 6), (2, 5), (3, 4)]), ([6, 1, 5, 2, 4, 3, 1], [(1, 5), (2, 4)]),
                ([6, 1, 5, 2, 4, 3, 0], [(0, 6), (1, 5), (2, 4)]), ([5, 1, 4, 2, 3, 6], [(1, 5), (2, 4)]),
                ([5, 1, 5], [(1, 5)]), ([5, 1, 3, 1], [(1, 3)]), ([3, 3], []), ([3, 0], [(0, 3)]), ([3, 1, 2], []),
                ([2, 1, 3], [(1, 2)]), ([0], []), ([6, 2, 4, 1], [(2, 4)])):
            live, model = Live(device), Model(device)
            for level in levels[:-1]:
                live.step(level)
                model.step(level)
            many = len(live.sheet())
            live.step(levels[-1])
            model.step(levels[-1])
            self.check(live, model)
            told = [("loop", (low, high), work_by_words(device, [high, low], [high, low])) for low, high in loops]
            self.assertEqual(live.sheet()[many:], told)

    def test_more_than_a_thousand_levels(self):
        draw = drawing(213)
        for top in (3, 6):
            device = drawn_device(draw, top)
            live, model = Live(device), Model(device)
            for number in range(1500):
                level = draw.randint(0, top)
                self.assertEqual(live.step(level), model.step(level))
                if number % 10 == 0:
                    self.do(draw, live, model)
                if number % 50 == 0:
                    self.check(live, model)
            self.check(live, model)
            self.assertGreater(len(live.sheet()), 400)

    def test_by_the_works_of_points_20_and_22(self):
        # Without changes of weights, the work is that of the levels as a history.
        draw = drawing(214)
        for top in TOPS:
            device = drawn_device(draw, top)
            live = Live(device)
            levels = [draw.randint(0, top) for _ in range(40)]
            self.assertEqual(sum([live.step(level) for level in levels]), work_by_words(device, [], levels))
            self.assertEqual(live.work(), work_by_words(device, [], levels))
            self.assertEqual(live.output(), output_by_words(device, levels))
            self.assertEqual(live.memory(), memory_by_words(levels))

    def test_asked_again(self):
        draw = drawing(215)
        device = drawn_device(draw, 4)
        live, model = Live(device), Model(device)
        for _ in range(20):
            self.do(draw, live, model)
            for _ in range(3):
                self.check(live, model)


class ChangesTest(LiveCase):
    def test_from_0_to_0_and_to_what_it_is(self):
        device = Device.parse("3 1\n2 1 4")
        live, model = Live(device), Model(device)
        for level in (None, 2, 1, 2, 3, 0, 3, 1):
            if level is not None:
                self.assertEqual(live.step(level), model.step(level))
            for switch in all_switches(3):
                for weight in (0, 0, 7, 7, -9999, 9999, 0, model.weights[switch]):
                    self.assertEqual(live.change_weight(switch, weight), model.change_weight(switch, weight))
                    self.check(live, model)

    def test_amounts(self):
        live = Live(Device.parse("3 0\n3 0 5"))
        self.assertEqual(live.change_weight((3, 0), 6), 0)
        self.assertEqual(live.step(3), 18)
        self.assertEqual([live.change_weight((3, 0), 6), live.change_weight((3, 0), 7)], [0, -3])
        self.assertEqual([live.change_weight((3, 0), 0), live.change_weight((2, 1), 10)], [21, -20])
        self.assertEqual([live.step(1), live.step(0), live.work()], [-10, 0, 8])
        # The memory is empty now, and its work is 0 by any weights.
        self.assertEqual(live.change_weight((2, 1), 0), 0)
        self.assertEqual(live.sheet(), [
            ("change", (3, 0), 0), ("change", (3, 0), 0), ("change", (3, 0), -3), ("change", (3, 0), 21),
            ("change", (2, 1), -20), ("loop", (0, 3), 10), ("change", (2, 1), 0)])

    def test_a_switch_that_is_off_but_was_on_in_the_memory(self):
        live = Live(Device.parse("3 0\n3 2 1"))
        live.step(3)
        live.step(1)
        # As a history, the memory (3, 1) pays 3 and takes 2 back.
        self.assertEqual([live.memory(), live.change_weight((3, 2), 11)], [(3, 1), -10])

    def test_the_base(self):
        live = Live(Device.parse("2 5\n2 1 1"))
        for base in (0, -9999, 9999, 9999):
            self.assertIsNone(live.change_base(base))
            self.assertEqual([live.output(), live.device().base, live.work(), live.sheet()], [base, base, 0, []])
        live.step(2)
        self.assertEqual([live.output(), live.work()], [10000, 2])
        self.assertEqual(str(live.device()), "2 9999\n2 1 1")

    def test_weights_at_the_ends(self):
        live = Live(Device.parse("1 0"))
        for weight in (9999, -9999, 0, 1, -1):
            live.change_weight((1, 0), weight)
            self.assertEqual(live.device().weights(), {(1, 0): weight} if weight else {})


class MarksTest(LiveCase):
    def test_numbers(self):
        live = Live(Device.parse("2 0\n2 1 1"))
        self.assertEqual([live.mark(), live.mark(), live.mark()], [0, 1, 2])
        self.assertIsNone(live.back(1))
        self.assertEqual([live.mark(), live.mark()], [2, 3])
        live.back(0)
        self.assertEqual(repr(live.mark()), "1")

    def test_back(self):
        device = Device.parse("2 7\n2 1 1")
        live, model = Live(device), Model(device)
        live.mark()
        for thing in (live, model):
            thing.step(2)
            thing.change_weight((2, 0), 5)
            thing.step(0)
        self.assertEqual(live.mark(), 1)
        for _ in range(3):
            live.change_base(-8)
            live.change_weight((1, 0), 9)
            live.change_weight((2, 0), 0)
            live.step(1)
            live.back(1)
            self.check(live, model)
        live.back(0)
        self.check(live, Model(device))
        self.check_error(UnknownMark, {"number": 1}, live.back, 1)
        self.assertEqual([live.step(2), live.mark()], [2, 1])

    def test_drawn_marks(self):
        draw = drawing(216)
        for top in TOPS:
            device = drawn_device(draw, top)
            live, model, marks = Live(device), Model(device), []
            for _ in range(80):
                what = draw.randrange(5)
                if what == 0:
                    self.assertEqual(live.mark(), len(marks))
                    marks.append(copy.deepcopy(model))
                elif what == 1 and marks:
                    number = draw.randrange(len(marks))
                    live.back(number)
                    del marks[number + 1:]
                    model = copy.deepcopy(marks[number])
                else:
                    self.do(draw, live, model)
                self.check(live, model)
                self.check_error(UnknownMark, {"number": len(marks)}, live.back, len(marks))


class WrongValuesTest(LiveCase):
    device = Device.parse("3 4\n2 1 5\n3 0 -7")

    def setUp(self):
        self.live, self.model = Live(self.device), Model(self.device)
        for thing in (self.live, self.model):
            thing.step(3)
            thing.step(1)
            thing.change_weight((2, 1), 6)

    def tearDown(self):
        self.check(self.live, self.model)
        self.assertEqual(self.live.mark(), 0)

    def test_levels(self):
        for value in NO_LEVELS:
            self.check_error(BadLevels, {"index": 0}, self.live.step, value)

    def test_switches(self):
        for value in NO_SWITCHES:
            for weight in (5, None, 10000):
                self.check_error(BadSwitch, {}, self.live.change_weight, value, weight)

    def test_weights(self):
        for value in NO_WEIGHTS:
            self.check_error(BadWeight, {}, self.live.change_weight, (3, 2), value)
            self.check_error(BadWeight, {}, self.live.change_weight, (2, 1), value)
            self.check_error(BadWeight, {}, self.live.change_base, value)

    def test_marks(self):
        for value in NO_INTEGERS + (0, -1, 1, GREAT, nested(50)):
            self.check_error(UnknownMark, {"number": value}, self.live.back, value)

    def test_marks_beyond(self):
        live = Live(self.device)
        live.mark()
        live.step(2)
        for value in NO_INTEGERS + (-1, 1, GREAT, -GREAT, nested(50)):
            self.check_error(UnknownMark, {"number": value}, live.back, value)
        self.assertEqual([live.memory(), live.mark()], [(2,), 1])

    def test_other_tops(self):
        for top in TOPS:
            live = Live(Device.parse(f"{top} 0"))
            live.step(top)
            live.change_weight((top, top - 1), 3)
            self.check_error(BadLevels, {"index": 0}, live.step, top + 1)
            self.check_error(BadSwitch, {}, live.change_weight, (top + 1, top), 3)


class CopiesTest(LiveCase):
    def test_the_device_that_is_handed_in_stays(self):
        device = Device.parse("2 7\n2 1 1")
        live = Live(device)
        told = live.device()
        live.step(2)
        live.change_weight((2, 1), 5)
        live.change_weight((1, 0), 5)
        live.change_base(1)
        later = live.device()
        live.change_base(2)
        live.change_weight((2, 1), 6)
        self.assertEqual([str(device), str(told)], ["2 7\n2 1 1", "2 7\n2 1 1"])
        self.assertEqual([str(later), str(live.device())], ["2 1\n1 0 5\n2 1 5", "2 2\n1 0 5\n2 1 6"])

    def test_what_is_told_is_new(self):
        live = Live(Device.parse("2 7\n2 1 1"))
        live.step(2)
        live.step(0)
        live.mark()
        told = live.sheet()
        told.append(5)
        live.sheet().clear()
        live.device().weights()[2, 1] = 50
        self.assertEqual([live.sheet(), live.output()], [[("loop", (0, 2), 1)], 7])
        told = live.sheet()
        live.step(1)
        live.step(0)
        self.assertEqual([told, len(live.sheet())], [[("loop", (0, 2), 1)], 2])
        live.back(0)
        live.step(1)
        live.step(0)
        live.back(0)
        self.assertEqual(live.sheet(), [("loop", (0, 2), 1)])

    def test_two_of_one_device(self):
        device = Device.parse("2 7\n2 1 1")
        first, second = Live(device), Live(device)
        first.step(2)
        first.change_weight((2, 1), 9)
        first.mark()
        self.check(second, Model(device))
        self.check_error(UnknownMark, {"number": 0}, second.back, 0)


class InterfaceTest(unittest.TestCase):
    def test_by_name(self):
        live = Live(device=Device.parse("2 0\n2 1 1"))
        self.assertEqual(live.step(level=2), 2)
        self.assertEqual(live.change_weight(switch=(2, 1), weight=5), -8)
        self.assertIsNone(live.change_base(base=3))
        self.assertEqual(live.mark(), 0)
        self.assertIsNone(live.back(number=0))

    def test_defined_in_their_file(self):
        self.assertEqual(Live.__module__, "turnweights.live")
        self.assertIs(module.Live, Live)
        for name in ("device", "memory", "output", "work", "sheet", "step", "change_weight", "change_base", "mark",
                     "back"):
            self.assertIn(name, vars(Live))


if __name__ == "__main__":
    unittest.main()
