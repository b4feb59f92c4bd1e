"""Points 17, 18 and 19: machines, which of them are devices, and devices behind devices."""

import copy
import unittest
from functools import partial
from itertools import product

from by_words import OTHER_VALUES, TOPS, all_switches, drawing, drawn_device, drawn_history, made_device
from by_words import memories_by_words, memory_by_words, output_by_words, short_histories
from turnweights import machines as module
from turnweights.devices import Device, multiplied
from turnweights.errors import BadLevels, BadMachine, NotALevel, OtherTops, WeightError
from turnweights.machines import Machine, are_pairs, judged, machine_of, machine_output, put_behind
from wrong_values import NO_HISTORIES, NO_INTEGERS, NO_LISTS, NO_MEMORIES, ValuesCase, nested

GREAT = 10 ** 999
STATES = [(5, [0, 1, 3]), (-7, [0, 1, 2]), (0, [3, 3, 3]), (GREAT, [1, 0, 0])]
EXAMPLE = Device.parse("2 10\n1 0 1\n2 0 2\n2 1 4")


def told_by(states, history):
    state = 0
    for level in history:
        state = states[state][1][level]
    return states[state][0]


def drawn_machine(draw, top, many, numbers):
    return Machine(top, [(draw.choice(numbers), [draw.randrange(many) for _ in range(top + 1)]) for _ in range(many)])


def renumbered(draw, machine):
    """The machine with the numbers of its states changed, but for state 0."""
    states = machine.states()
    places = list(range(1, len(states)))
    draw.shuffle(places)
    order = [0] + places
    return Machine(machine.top, [(states[old][0], [order.index(number) for number in states[old][1]])
                                 for old in order])


def doubled(draw, machine):
    """The machine with each state there twice."""
    states = machine.states()
    return Machine(machine.top, [(output, [number + draw.choice([0, len(states)]) for number in nexts])
                                 for output, nexts in states * 2])


def with_more(draw, machine, many):
    """The machine with some states that are never reached."""
    states = machine.states()
    more = [(draw.randint(-5, 5), [draw.randrange(len(states) + many) for _ in range(machine.top + 1)])
            for _ in range(many)]
    return Machine(machine.top, states + more)


class MachineTest(ValuesCase):
    def test_states(self):
        machine = Machine(2, STATES)
        self.assertEqual((machine.top, machine.states()), (2, STATES))
        self.assertEqual(Machine(2, machine.states()), machine)
        self.assertEqual(Machine(top=1, states=[(3, [0, 0])]).states(), [(3, [0, 0])])

    def test_all_tops(self):
        for top in TOPS:
            machine = drawn_machine(drawing(50), top, 7, range(-9, 9))
            self.assertEqual(machine.top, top)
            self.assertEqual(Machine(top, machine.states()), machine)

    def test_states_are_new_each_time(self):
        machine = Machine(2, STATES)
        told = machine.states()
        told[0][1][1] = 2
        told[1][1].clear()
        told.pop()
        self.assertEqual(machine.states(), STATES)
        self.assertEqual({type(state) for state in machine.states()}, {tuple})
        self.assertEqual({type(nexts) for _, nexts in machine.states()}, {list})

    def test_keeps_a_copy(self):
        states = copy.deepcopy(STATES)
        machine = Machine(2, states)
        self.assertEqual(states, STATES)
        states[0][1][1] = 2
        states.pop()
        self.assertEqual(machine.states(), STATES)

    def test_equality(self):
        machine = Machine(2, STATES)
        self.assertTrue(machine == Machine(2, copy.deepcopy(STATES)))
        self.assertFalse(machine != Machine(2, copy.deepcopy(STATES)))
        others = [Machine(2, STATES[:2] + [(1, [3, 3, 3])] + STATES[3:]), Machine(2, [STATES[1], STATES[0]] + STATES[2:]),
                  Machine(2, STATES + [(0, [0, 0, 0])]), Machine(2, STATES[:3] + [(GREAT, [1, 0, 1])]),
                  Machine(1, [(5, [0, 0])]), Machine(2, [(5, [0, 0, 0])]), EXAMPLE, STATES, 2, None, True, "2", {}]
        for other in others:
            self.assertTrue(machine != other)
            self.assertFalse(machine == other)
            self.assertFalse(other == machine)
        self.assertNotEqual(Machine(1, [(1, [0, 0])]), Machine(2, [(1, [0, 0, 0])]))

    def test_output(self):
        draw = drawing(51)
        for top in TOPS:
            for many in (1, 2, 5, 40):
                machine = drawn_machine(draw, top, many, range(-99, 99))
                for _ in range(30):
                    history = drawn_history(draw, top, 20)
                    self.assertEqual(machine_output(machine, history), told_by(machine.states(), history))
        self.assertEqual(machine_output(Machine(2, STATES), []), 5)
        self.assertEqual(machine_output(Machine(2, STATES), [2]), GREAT)
        self.assertEqual(machine_output(Machine(2, STATES), [1, 2, 0, 0, 2] * 1000), told_by(STATES, [1, 2, 0, 0, 2] * 1000))

    def test_wrong_levels(self):
        machine = Machine(3, [(4, [0, 0, 0, 0])])
        for value, index in NO_HISTORIES:
            self.check_error(BadLevels, {"index": index}, partial(machine_output, machine), value)
        for top in TOPS:
            machine = Machine(top, [(4, [0] * (top + 1))])
            self.check_told(4, partial(machine_output, machine), [0, top])
            self.check_error(BadLevels, {"index": 1}, partial(machine_output, machine), [0, top + 1])


# Values that are no states of a machine of the top 2 with four states.
NO_STATES = NO_LISTS + (
    [], [5, [0, 0, 0]], (5,), ([0, 0, 0],), ([0, 0, 0], 5), (5, [0, 0, 0], 1), (5, [0, 0, 0], None), ((5, [0, 0, 0]),),
    (5, (0, 0, 0)), (5, []), (5, [0, 0]), (5, [0, 0, 0, 0]), (5, 0, 0, 0), (5, [0, 0, 4]), (5, [4, 0, 0]),
    (5, [0, -1, 0]), (5, [0, 0, GREAT]), (5, [-GREAT, 0, 0]), (5, [[0], 0, 0]), (5, [[0, 0, 0]]), (5, [0, 0, [0]]),
    {0: 5, 1: [0, 0, 0]}, nested(50), (5, nested(49)), (nested(49), [0, 0, 0])) + tuple(
    (value, [0, 0, 0]) for value in NO_INTEGERS) + tuple(
    (5, [0, value, 0]) for value in NO_INTEGERS) + tuple(
    (5, value) for value in NO_LISTS)


class WrongMachineTest(ValuesCase):
    def test_no_lists(self):
        for value in NO_LISTS + ([], {0: (5, [0, 0, 0])}, (5, [0, 0, 0]), ((5, [0, 0, 0]),)):
            self.check_error(BadMachine, {"number": 0}, partial(Machine, 2), value)

    def test_one_wrong_state(self):
        for value in NO_STATES:
            for number in range(4):
                states = STATES[:number] + [value] + STATES[number + 1:]
                self.check_error(BadMachine, {"number": number}, partial(Machine, 2), states)

    def test_two_wrong_states(self):
        for value in NO_STATES:
            for number in range(3):
                states = STATES[:number] + [value] + STATES[number + 1:3] + [(5, [0, 0, 4])]
                self.check_error(BadMachine, {"number": number}, partial(Machine, 2), states)

    def test_lengths_for_all_tops(self):
        for top in TOPS:
            for many in range(9):
                states = [(5, [0] * (top + 1)), (5, [1] * many)]
                if many == top + 1:
                    self.assertEqual(Machine(top, states).states(), states)
                else:
                    self.check_error(BadMachine, {"number": 1}, partial(Machine, top), states)

    def test_next_states(self):
        for many in (1, 2, 3, 299, 300):
            states = [(5, [0, many - 1])] * many
            self.assertEqual(Machine(1, states).states(), states)
            self.check_error(BadMachine, {"number": many - 1}, partial(Machine, 1), states[1:] + [(5, [0, many])])

    def test_more_than_three_hundred(self):
        for many in (301, 302, 1000):
            for last in (0, 299, 300):
                states = [(5, [0, last])] * many
                self.check_error(BadMachine, {"number": 300}, partial(Machine, 1), states)
                for number in (0, 1, 298, 299):
                    for value in (None, (5, [0]), (5, [0, many]), (True, [0, 0])):
                        wrong = states[:number] + [value] + states[number + 1:]
                        self.check_error(BadMachine, {"number": number}, partial(Machine, 1), wrong)
                for number in (300, many - 1):
                    wrong = states[:number] + [None] + states[number + 1:]
                    self.check_error(BadMachine, {"number": 300}, partial(Machine, 1), wrong)
        self.assertEqual(len(Machine(1, [(5, [0, 299])] * 300).states()), 300)


class MachineOfTest(unittest.TestCase):
    def test_outputs(self):
        draw = drawing(52)
        for top in TOPS:
            for device in (drawn_device(draw, top), drawn_device(draw, top, [0, 0, 1]), Device.parse(f"{top} 5")):
                machine = machine_of(device)
                self.assertIs(type(machine), Machine)
                self.assertEqual(machine.top, top)
                for history in short_histories(top, 3):
                    self.assertEqual(machine_output(machine, history), output_by_words(device, history))
                for _ in range(40):
                    history = drawn_history(draw, top, 20)
                    self.assertEqual(machine_output(machine, history), output_by_words(device, history))

    def test_great_numbers(self):
        machine = machine_of(multiplied(EXAMPLE, GREAT))
        self.assertEqual(machine_output(machine, [2, 1]), 13 * GREAT)


class JudgedTest(unittest.TestCase):
    def check(self, machine):
        told = judged(machine)
        self.assertIs(type(told), tuple)
        self.assertEqual(len(told), 3)
        if told[0] == "device":
            self.check_pairs(machine, *told[1:])
        else:
            self.assertEqual(told[0], "bars")
            self.check_bars(machine, *told[1:])
        return told[0]

    def check_pairs(self, machine, device, pairs):
        states = machine.states()
        self.assertEqual((type(device), device.top, type(pairs)), (Device, machine.top, list))
        known = set(pairs)
        self.assertEqual(len(known), len(pairs))
        self.assertIn((0, ()), known)
        for pair in pairs:
            self.assertEqual((type(pair), type(pair[0]), type(pair[1])), (tuple, int, tuple))
            state, memory = pair
            self.assertEqual(states[state][0], output_by_words(device, memory))
            for level, following in enumerate(states[state][1]):
                self.assertIn((following, memory_by_words([*memory, level])), known)
        self.assertIs(are_pairs(device, machine, pairs), True)

    def check_bars(self, machine, histories, numbers):
        top, states = machine.top, machine.states()
        self.assertEqual((type(histories), type(numbers)), (list, list))
        for history in histories:
            self.assertEqual({type(level) for level in history} | {int}, {int})
            self.assertTrue(type(history) is list and all(0 <= level <= top for level in history))
        if len(histories) == 2:
            self.assertEqual(sorted(numbers), [-1, 1])
            self.assertEqual(memory_by_words(histories[0]), memory_by_words(histories[1]))
        else:
            self.assertEqual((len(histories), numbers), (4, [-1, 1, 1, -1]))
            high = histories[1][-1]
            low = histories[0][-1] if histories[0] else 0
            self.assertEqual(histories[1:], [histories[0] + [high], [high, low], [high]])
            self.assertGreater(high, low)
            self.assertTrue(all(entry >= high for entry in memory_by_words(histories[0])[::2]))
        self.assertNotEqual(sum(number * told_by(states, history) for history, number in zip(histories, numbers)), 0)

    def test_examples(self):
        first = Machine(1, [(0, [0, 1]), (5, [0, 1])])
        other = Machine(1, [(0, [0, 1]), (5, [0, 2]), (6, [0, 2])])
        self.assertEqual([judged(first)[1].weights(), judged(other)[0], sorted(judged(other)[2])],
                         [{(1, 0): 5}, "bars", [-1, 1]])
        self.assertEqual([self.check(first), self.check(other)], ["device", "bars"])

    def test_machines_of_devices(self):
        draw = drawing(53)
        for top in TOPS:
            for numbers in (range(-9999, 10000), [0, 0, 1], [0]):
                device = drawn_device(draw, top, numbers)
                machine = machine_of(device)
                self.assertEqual(self.check(machine), "device")
                self.assertEqual(judged(machine)[1], device)

    def test_renumbered_doubled_and_more(self):
        draw = drawing(54)
        for top in TOPS:
            device = drawn_device(draw, top)
            machines = [renumbered(draw, machine_of(device)), doubled(draw, machine_of(device)),
                        with_more(draw, machine_of(device), 9)]
            machines.append(renumbered(draw, doubled(draw, with_more(draw, machine_of(device), 3))))
            for machine in machines:
                self.assertEqual(self.check(machine), "device")
                self.assertEqual(judged(machine)[1], device)

    def test_one_output_changed(self):
        draw = drawing(55)
        for top in TOPS:
            device = drawn_device(draw, top, [0, 1, 2])
            machine = doubled(draw, machine_of(device)) if top < 5 else machine_of(device)
            states = machine.states()
            for number in range(0, len(states), 1 if top < 5 else 5):
                output, nexts = states[number]
                self.check(Machine(top, states[:number] + [(output + 1, nexts)] + states[number + 1:]))

    def test_one_next_state_changed(self):
        draw = drawing(56)
        for top in TOPS:
            found = set()
            for _ in range(20):
                device = drawn_device(draw, top, [0, 1, 2])
                machine = draw.choice([machine_of(device), doubled(draw, machine_of(device))] if top < 5
                                      else [machine_of(device)])
                states = machine.states()
                draw.choice(states)[1][draw.randint(0, top)] = draw.randrange(len(states))
                found.add(self.check(Machine(top, states)))
            self.assertIn("bars", found)

    def test_any_outputs_by_the_memory(self):
        draw = drawing(57)
        for top in TOPS:
            machine = machine_of(drawn_device(draw, top))
            found = set()
            for _ in range(5):
                some = Machine(top, [(draw.randint(0, 99), nexts) for _, nexts in machine.states()])
                found.add((self.check(some), len(judged(some)[1:][0]) if top > 2 else None))
            self.assertEqual(found, {("device", None)} if top < 3 else {("bars", 4)})

    def test_one_output_by_the_memory_changed(self):
        for top in TOPS:
            machine = machine_of(drawn_device(drawing(69), top))
            self.assertEqual([output for output, _ in machine.states()],
                             [output_by_words(judged(machine)[1], memory) for memory in memories_in_order(top)])
            for number, memory in enumerate(memories_in_order(top)):
                states = machine.states()
                states[number] = (states[number][0] - 3, states[number][1])
                told = self.check(Machine(top, states))
                if len(memory) > 2 or top < 3:
                    self.assertEqual(told, "device" if top < 3 else "bars")

    def test_machines_of_the_last_levels(self):
        for top in TOPS:
            by_level = Machine(top, [(level * level, list(range(top + 1))) for level in range(top + 1)])
            self.assertEqual(self.check(by_level), "device")
            counting = Machine(top, [(0, [0] + [1] * top), (1, [0] + [2] * top), (2, [0] + [1] * top)])
            self.assertEqual(self.check(counting), "bars")
            still = Machine(top, [(4, [0] * (top + 1))])
            self.assertEqual((self.check(still), str(judged(still)[1])), ("device", f"{top} 4"))

    def test_drawn_machines(self):
        draw = drawing(58)
        for top in (1, 2, 3):
            found = {self.check(drawn_machine(draw, top, draw.randint(1, 4), [0, 0, 0, 1])) for _ in range(200)}
            self.assertEqual(found, {"device", "bars"})

    def test_four_histories_are_needed(self):
        machine = machine_of(Device.parse("3 0"))
        states = machine.states()
        numbers = {memory: number for number, memory in enumerate(memories_in_order(3))}
        at = numbers[3, 1, 2]
        states[at] = (7, states[at][1])
        kind, histories, told = judged(Machine(3, states))
        self.assertEqual((kind, histories, told), ("bars", [[3, 1], [3, 1, 2], [2, 1], [2]], [-1, 1, 1, -1]))

    def test_great_numbers(self):
        device = multiplied(EXAMPLE, GREAT)
        told = judged(machine_of(device))
        self.assertEqual((told[0], told[1]), ("device", device))
        states = machine_of(device).states()
        self.assertEqual(self.check(Machine(2, [(output + 1, nexts) for output, nexts in states])), "device")

    def test_many_states(self):
        draw = drawing(59)
        self.assertEqual(self.check(drawn_machine(draw, 1, 300, [1])), "device")
        machine = with_more(draw, machine_of(drawn_device(draw, 3)), 292)
        self.assertEqual(self.check(machine), "device")
        twice = doubled(draw, doubled(draw, machine_of(drawn_device(draw, 4))))
        self.assertEqual(self.check(twice), "device")


def memories_in_order(top):
    return sorted(memories_by_words(top), key=lambda memory: (len(memory), memory))


def are_pairs_by_words(device, machine, pairs):
    """Point 18, for pairs of states and memories."""
    states = machine.states()
    return len(set(pairs)) == len(pairs) and (0, ()) in pairs and all(
        states[state][0] == output_by_words(device, memory) and all(
            (following, memory_by_words([*memory, level])) in pairs
            for level, following in enumerate(states[state][1]))
        for state, memory in pairs)


class PairsTest(ValuesCase):
    def check(self, device, machine, pairs):
        kept = copy.deepcopy(pairs)
        told = are_pairs(device, machine, pairs)
        self.assertIs(told, are_pairs_by_words(device, machine, pairs))
        self.assertEqual(pairs, kept)
        return told

    def test_right_pairs(self):
        draw = drawing(60)
        for top in TOPS:
            device = drawn_device(draw, top)
            pairs = list(enumerate(memories_in_order(top)))
            draw.shuffle(pairs)
            machine = Machine(top, [(output_by_words(device, memory), [
                memories_in_order(top).index(memory_by_words([*memory, level])) for level in range(top + 1)])
                for memory in memories_in_order(top)])
            self.assertTrue(self.check(device, machine, pairs))
            self.assertFalse(self.check(device, machine, pairs + pairs[:1]))
            self.check(device, machine, pairs + [(1, ())])
            self.assertFalse(self.check(device, machine, []))
            for index in range(0, len(pairs), 1 if top < 5 else 7):
                self.assertFalse(self.check(device, machine, pairs[:index] + pairs[index + 1:]))
                self.assertFalse(self.check(device, machine, pairs[:index] + [pairs[index - 1]] + pairs[index + 1:]))
            other = made_device(top, device.base, {**device.weights(), (top, 0): 5})
            self.check(other, machine, pairs)
            self.assertFalse(self.check(made_device(top, 1 - device.base, device.weights()), machine, pairs))

    def test_one_output_of_the_machine_changed(self):
        machine = machine_of(EXAMPLE)
        pairs = judged(machine)[2]
        for number in range(4):
            states = machine.states()
            states[number] = (states[number][0] + 1, states[number][1])
            self.assertFalse(self.check(EXAMPLE, Machine(2, states), pairs))

    def test_more_than_can_be_reached(self):
        draw = drawing(61)
        for top in (1, 2, 3, 4):
            device = drawn_device(draw, top)
            states = machine_of(device).states()
            many = len(states)
            # A second copy of the states, that is never reached.
            copies = [(output, [number + many for number in nexts]) for output, nexts in states]
            machine = Machine(top, states + copies)
            pairs = judged(machine)[2]
            self.assertEqual(len(pairs), many)
            more = pairs + [(number + many, memory) for number, memory in pairs]
            self.assertTrue(self.check(device, machine, pairs))
            self.assertTrue(self.check(device, machine, more))
            self.assertFalse(self.check(device, machine, more[many:]))
            for index in range(len(more)):
                self.assertFalse(self.check(device, machine, more[:index] + more[index + 1:]))

    def test_one_state_for_many_memories(self):
        device = Device.parse("3 4")
        machine = Machine(3, [(4, [0, 0, 0, 0])])
        pairs = [(0, memory) for memory in memories_by_words(3)]
        self.assertTrue(self.check(device, machine, pairs))
        self.assertFalse(self.check(device, machine, pairs[1:]))

    def test_drawn_pairs(self):
        draw = drawing(62)
        device = Device.parse("1 4")
        found = set()
        for _ in range(400):
            machine = drawn_machine(draw, 1, 3, [4, 4, 4, 5])
            every = list(product(range(3), memories_by_words(1)))
            found.add(self.check(device, machine, draw.sample(every, draw.randint(1, 6))))
        self.assertEqual(found, {True, False})

    def test_no_pairs(self):
        device = Device.parse("3 4")
        machine = Machine(3, [(4, [0, 0, 0, 0]), (4, [1, 1, 1, 1])])
        pairs = [(0, memory) for memory in memories_by_words(3)]
        self.check_told(True, partial(are_pairs, device, machine), pairs)
        for value in NO_LISTS + ([], tuple(pairs), {pair: True for pair in pairs}, nested(50), [[]], [()], [None]):
            self.check_told(False, partial(are_pairs, device, machine), value)
        wrong = OTHER_VALUES + NO_LISTS + (
            [0, ()], (0,), (0, (), 1), ((), 0), ((),), (0, [3, 1]), ((0, ()),), (0, 3, 1), nested(50), {0: ()})
        wrong = wrong + tuple((value, ()) for value in NO_INTEGERS + (-1, 2, GREAT, -GREAT))
        wrong = wrong + tuple((0, value) for value in NO_MEMORIES)
        for value in wrong:
            self.check_told(False, partial(are_pairs, device, machine), pairs + [value])
            self.check_told(False, partial(are_pairs, device, machine), [value] + pairs)
            self.check_told(False, partial(are_pairs, device, machine), [value])

    def test_true_and_false_are_no_numbers(self):
        device = Device.parse("1 4")
        machine = Machine(1, [(4, [0, 1]), (4, [0, 1])])
        self.check_told(True, partial(are_pairs, device, machine), [(0, ()), (1, (1,))])
        for pairs in ([(False, ()), (1, (1,))], [(0, ()), (True, (1,))], [(0, ()), (1, (True,))]):
            self.check_told(False, partial(are_pairs, device, machine), pairs)

    def test_other_tops(self):
        for first, second in product(TOPS, repeat=2):
            device, machine = Device.parse(f"{first} 4"), Machine(second, [(4, [0] * (second + 1))])
            for value in (None, [], [(0, ())], [(0, (first,))]):
                if first == second:
                    self.assertIs(are_pairs(device, machine, value), False)
                else:
                    self.check_error(OtherTops, {}, partial(are_pairs, device, machine), value)


class BehindTest(unittest.TestCase):
    def check(self, first, second, many=40):
        draw = drawing(63)
        machine = put_behind(first, second)
        self.assertIs(type(machine), Machine)
        self.assertEqual(machine.top, first.top)
        histories = short_histories(first.top, 2 if first.top > 3 else 3)
        for history in histories + [drawn_history(draw, first.top, 15) for _ in range(many)]:
            handed = [output_by_words(first, history[:length]) for length in range(len(history) + 1)]
            self.assertEqual(machine_output(machine, history), output_by_words(second, handed), (history, handed))

    def test_drawn_devices(self):
        draw = drawing(64)
        for first_top, second_top in product(TOPS, repeat=2):
            found = 0
            while found < 3 and first_top + second_top <= 8:
                first = drawn_first(draw, first_top, second_top)
                if first is not None:
                    found += 1
                    self.check(first, drawn_device(draw, second_top))

    def test_a_device_that_tells_the_level(self):
        for top in (1, 2, 3, 4):
            # With equal weights on (up, up - 1), the output is the level.
            first = made_device(top, 0, {(up, up - 1): 1 for up in range(1, top + 1)})
            second = drawn_device(drawing(65), top)
            machine = put_behind(first, second)
            for history in short_histories(top, 4):
                self.assertEqual(machine_output(machine, history), output_by_words(second, history))

    def test_a_base_is_handed_over_first(self):
        first = Device.parse("1 2\n1 0 -1")
        second = Device.parse("2 0\n2 0 7\n2 1 5")
        machine = put_behind(first, second)
        self.assertEqual([machine_output(machine, history) for history in ([], [1], [0], [1, 0])], [12, 7, 12, 12])
        first = Device.parse("1 1")
        self.assertEqual(machine_output(put_behind(first, Device.parse("1 0\n1 0 5")), []), 5)

    def test_tops_of_eight_together(self):
        draw = drawing(66)
        for first_top, second_top in ((2, 6), (3, 5), (4, 4), (5, 3), (6, 2)):
            first = None
            while first is None:
                first = drawn_first(draw, first_top, second_top)
            self.assertLessEqual(len(put_behind(first, drawn_device(draw, second_top)).states()), 256)

    def test_tops_a_little_beyond(self):
        first = made_device(6, 0, {(up, 0): 1 for up in (2, 4, 6)})
        self.check(first, drawn_device(drawing(67), 3), 10)

    def test_not_a_level(self):
        draw = drawing(68)
        lengths = set()
        for first_top, second_top in product(TOPS, repeat=2):
            for _ in range(20 if first_top + second_top <= 8 else 0):
                first = drawn_device(draw, first_top, [0, 0, 0, 1, 2, -1])
                second = drawn_device(draw, second_top)
                lengths.add(self.check_not_a_level(first, second))
        self.assertLessEqual({None, 0, 1, 2}, lengths)

    def check_not_a_level(self, first, second):
        wrong = {memory for memory in memories_by_words(first.top)
                 if not 0 <= output_by_words(first, memory) <= second.top}
        if not wrong:
            put_behind(first, second)
            return None
        with self.assertRaises(NotALevel) as caught:
            put_behind(first, second)
        self.assertIsInstance(caught.exception, WeightError)
        history, number = caught.exception.history, caught.exception.number
        self.assertEqual((type(history), type(number)), (list, int))
        self.assertEqual(output_by_words(first, history), number)
        self.assertFalse(0 <= number <= second.top)
        self.assertEqual(len(history), min(map(len, wrong)))
        return len(history)

    def test_some_that_are_no_levels(self):
        for text, history, number in (("1 -1\n1 0 1", [], -1), ("1 3", [], 3), ("1 0\n1 0 3", [1], 3),
                                      ("1 2\n1 0 -3", [1], -1), ("2 0\n2 0 3\n2 1 -1", [2, 1], 3), ("1 2\n1 0 1", [1], 3),
                                      ("3 0\n2 1 2\n3 0 2\n3 1 -2", [3, 1, 2], 4)):
            with self.assertRaises(NotALevel) as caught:
                put_behind(Device.parse(text), Device.parse("2 0"))
            self.assertEqual((caught.exception.history, caught.exception.number), (history, number))


def drawn_first(draw, first_top, second_top):
    """A device whose outputs are levels of the second top; None if the drawn one has others."""
    weights = {draw.choice(all_switches(first_top)): draw.choice([-2, -1, 1, 1, 2]) for _ in range(draw.randint(1, 5))}
    first = made_device(first_top, draw.randint(0, second_top), weights)
    outputs = {output_by_words(first, memory) for memory in memories_by_words(first_top)}
    return first if 0 <= min(outputs) and max(outputs) <= second_top else None


class InterfaceTest(unittest.TestCase):
    def test_by_name(self):
        machine = Machine(top=1, states=[(0, [0, 1]), (5, [0, 1])])
        device = Device.parse("1 0\n1 0 5")
        self.assertEqual(machine_output(machine=machine, history=[1]), 5)
        self.assertEqual(machine_output(machine_of(device=device), [1]), 5)
        self.assertEqual(machine_output(put_behind(first=Device.parse("1 0\n1 0 1"), second=device), [1]), 5)
        self.assertEqual(judged(machine=machine)[1], device)
        self.assertIs(are_pairs(device=device, machine=machine, pairs=[(0, ()), (1, (1,))]), True)

    def test_new_each_time(self):
        machine = Machine(1, [(0, [0, 1]), (5, [0, 1])])
        judged(machine)[2].clear()
        self.assertEqual(len(judged(machine)[2]), 2)
        other = Machine(1, [(0, [0, 1]), (5, [0, 2]), (6, [0, 2])])
        for place in (1, 2):
            judged(other)[place].clear()
            self.assertEqual(len(judged(other)[place]), 2)

    def test_defined_in_their_file(self):
        for function in (Machine, machine_output, machine_of, put_behind, judged, are_pairs):
            self.assertEqual(function.__module__, "turnweights.machines")
            self.assertIs(getattr(module, function.__name__), function)
        for name in ("states", "__init__", "__eq__"):
            self.assertIn(name, vars(Machine))


if __name__ == "__main__":
    unittest.main()
