"""Points 6, 8, 9 and 10: histories, memories, and the switches that are on."""

import unittest
from itertools import product

from by_words import TOPS, all_switches, histories, memories_by_words, memory_by_words, on_after, short_histories
from turnweights import memories as module
from turnweights.errors import BadLevels, BadMemory
from turnweights.memories import joined, memories, memory_after, memory_of, met, parting_switch, switches_on
from wrong_values import NO_HISTORIES, NO_MEMORIES, ValuesCase


class MemoryTest(unittest.TestCase):
    def test_examples(self):
        self.assertEqual(
            [memory_of(3, [3, 1, 2, 1, 2]), memory_of(3, [2, 3, 0, 1]), memory_of(3, [1, 0])], [(3, 1, 2), (1,), ()])

    def test_by_the_words(self):
        for top in TOPS:
            for history in histories(top):
                self.assertEqual(memory_of(top, history), memory_by_words(history), (top, history))

    def test_some_memories(self):
        for history, memory in (
                ([], ()), ([0], ()), ([0, 0, 0], ()), ([4, 0], ()), ([6], (6,)), ([6, 6], (6,)), ([0, 6], (6,)),
                ([6, 1], (6, 1)), ([6, 1, 1], (6, 1)), ([6, 1, 6], (6,)), ([6, 1, 5, 1], (6, 1)),
                ([1, 2, 3], (3,)), ([3, 2, 1], (3, 1)), ([3, 1, 2, 3], (3,)), ([5, 2, 4, 3], (5, 2, 4, 3)),
                ([5, 2, 4, 3, 4], (5, 2, 4)), ([5, 2, 4, 3, 2], (5, 2)), ([5, 2, 4, 3, 1], (5, 1)),
                ([5, 2, 4, 3, 5], (5,)), ([5, 2, 4, 3, 6], (6,)), ([5, 2, 4, 3, 0, 2], (2,)),
                ([6, 1, 5, 2, 4, 3], (6, 1, 5, 2, 4, 3)), ([4, 4, 2, 2, 3, 3], (4, 2, 3)), ([2, 6, 3, 0], ())):
            with self.subTest(history=history):
                self.assertEqual(memory_of(6, history), memory)

    def test_levels_that_stay(self):
        for top in TOPS:
            for history in short_histories(top, 3):
                twice = [level for level in history for _ in range(2)]
                self.assertEqual(memory_of(top, twice), memory_of(top, history))

    def test_to_0_and_to_the_top(self):
        for top in TOPS:
            for history in short_histories(top, 3):
                self.assertEqual(memory_of(top, history + [0]), ())
                self.assertEqual(memory_of(top, history + [top]), (top,))

    def test_loops(self):
        for top in TOPS:
            for history in short_histories(top, 2):
                for low, high in product(range(top + 1), repeat=2):
                    once = history + [low, high]
                    self.assertEqual(memory_of(top, once + [low, high] * 3), memory_of(top, once))

    def test_a_long_history(self):
        self.assertEqual(memory_of(6, [6, 1, 5, 2, 4, 3] * 5000), (6, 1, 5, 2, 4, 3))

    def test_kinds_of_values(self):
        memory = memory_of(3, [3, 1, 2])
        self.assertIs(type(memory), tuple)
        self.assertEqual({type(entry) for entry in memory}, {int})


class MemoriesTest(unittest.TestCase):
    def test_some_tops(self):
        self.assertEqual(memories(1), [(), (1,)])
        self.assertEqual(memories(2), [(), (1,), (2,), (2, 1)])
        self.assertEqual(memories(3), [(), (1,), (2,), (3,), (2, 1), (3, 1), (3, 2), (3, 1, 2)])

    def test_all_in_order(self):
        for top in TOPS:
            expected = sorted(memories_by_words(top), key=lambda memory: (len(memory), memory))
            self.assertEqual(memories(top), expected)
            self.assertEqual(len(memories(top)), 2 ** top)
            self.assertEqual({frozenset(memory) for memory in memories(top)},
                             {frozenset(memory) for memory in memories_by_words(top)})

    def test_just_those_of_histories(self):
        for top in (1, 2, 3, 4):
            self.assertEqual(set(memories(top)), {memory_of(top, history) for history in short_histories(top, top)})

    def test_new_each_time(self):
        told = memories(3)
        self.assertIsNot(told, memories(3))
        told.pop()
        told[0] = (3,)
        self.assertEqual(memories(3), [(), (1,), (2,), (3,), (2, 1), (3, 1), (3, 2), (3, 1, 2)])
        self.assertIs(type(told), list)
        self.assertEqual({type(memory) for memory in told}, {tuple})


class MemoriesAndSwitchesTest(unittest.TestCase):
    def test_one_memory_just_with_the_same_switches(self):
        for top in TOPS:
            with_switches = {}
            with_memory = {}
            for history in histories(top):
                on = on_after(top, history)
                memory = memory_of(top, history)
                self.assertEqual(with_switches.setdefault(on, memory), memory, (top, history))
                self.assertEqual(with_memory.setdefault(memory, on), on, (top, history))

    def test_a_memory_is_its_own_memory(self):
        for top in TOPS:
            for memory in memories(top):
                self.assertEqual(memory_of(top, list(memory)), memory)
                self.assertEqual(memory_after(top, (), list(memory)), memory)

    def test_a_memory_is_a_shortest_history(self):
        for top in (1, 2, 3, 4):
            lengths = {}
            for history in short_histories(top, top):
                lengths.setdefault(memory_of(top, history), len(history))
            self.assertEqual(lengths, {memory: len(memory) for memory in memories(top)})

    def test_memory_after(self):
        for top in TOPS:
            many = 3 if top < 5 else 2
            for memory in memories(top):
                for levels in short_histories(top, many):
                    told = memory_after(top, memory, levels)
                    self.assertEqual(told, memory_by_words(list(memory) + levels))
                    self.assertEqual(told, memory_of(top, list(memory) + levels))

    def test_memory_after_a_history(self):
        for top in TOPS:
            for first, second in product(short_histories(top, 2), repeat=2):
                self.assertEqual(memory_after(top, memory_of(top, first), second), memory_of(top, first + second))

    def test_memory_after_nothing(self):
        for top in TOPS:
            for memory in memories(top):
                self.assertEqual(memory_after(top, memory, []), memory)

    def test_switches_on(self):
        for top in TOPS:
            for memory in memories(top):
                told = switches_on(top, memory)
                self.assertEqual(told, sorted(on_after(top, memory)))
                self.assertIs(type(told), list)
                self.assertEqual({type(switch) for switch in told} | {tuple}, {tuple})

    def test_some_switches_on(self):
        self.assertEqual(switches_on(3, ()), [])
        self.assertEqual(switches_on(3, (1,)), [(1, 0)])
        self.assertEqual(switches_on(3, (3, 1)), [(1, 0), (2, 0), (3, 0)])
        self.assertEqual(switches_on(3, (3, 1, 2)), [(1, 0), (2, 0), (2, 1), (3, 0)])
        self.assertEqual(switches_on(3, (3,)), [(1, 0), (2, 0), (2, 1), (3, 0), (3, 1), (3, 2)])

    def test_switches_on_are_new_each_time(self):
        told = switches_on(3, (3, 1))
        self.assertIsNot(told, switches_on(3, (3, 1)))
        told.clear()
        self.assertEqual(switches_on(3, (3, 1)), [(1, 0), (2, 0), (3, 0)])

    def test_parting_switch(self):
        for top in TOPS:
            for first, second in product(short_histories(top, 3 if top < 4 else 2), repeat=2):
                self.check_parting(top, first, second)

    def test_parting_switch_of_all_memories(self):
        for top in (4, 5):
            for first, second in product(memories(top), repeat=2):
                self.check_parting(top, list(first), list(second))

    def check_parting(self, top, first, second):
        switch = parting_switch(top, first, second)
        on_first = on_after(top, first)
        on_second = on_after(top, second)
        if on_first == on_second:
            self.assertIsNone(switch)
        else:
            self.assertIs(type(switch), tuple)
            self.assertIn(switch, all_switches(top))
            self.assertNotEqual(switch in on_first, switch in on_second)


class JoinedAndMetTest(unittest.TestCase):
    def test_example(self):
        self.assertEqual([joined(3, (3, 1), (2,)), met(3, (3, 1), (2,))], [(3, 1, 2), (2, 1)])

    def test_all_pairs(self):
        for top in TOPS:
            on = {memory: on_after(top, memory) for memory in memories(top)}
            with_switches = {on[memory]: memory for memory in on}
            for first, second in product(on, repeat=2):
                self.assertEqual(joined(top, first, second), with_switches[on[first] | on[second]], (first, second))
                self.assertEqual(met(top, first, second), with_switches[on[first] & on[second]], (first, second))

    def test_kinds_of_values(self):
        for result in (joined(3, (3, 1), (2,)), met(3, (3, 1), (2,)), joined(3, (), ()), met(3, (), (3,))):
            self.assertIs(type(result), tuple)


class WrongValuesTest(ValuesCase):
    def check_levels(self, function, values, index):
        self.check_error(BadLevels, {"index": index}, function, 3, *values)

    def check_memory(self, function, values):
        self.check_error(BadMemory, {}, function, 3, *values)

    def test_histories(self):
        for value, index in NO_HISTORIES:
            self.check_levels(memory_of, [value], index)
            self.check_levels(memory_after, [(3, 1), value], index)

    def test_two_histories(self):
        for value, index in NO_HISTORIES:
            self.check_levels(parting_switch, [value, [1, 2]], index)
            self.check_levels(parting_switch, [[1, 2, 3, 0], value], index)
            self.check_levels(parting_switch, [value, [0, 0, 0, 0, 0, 0, 9]], index)
            self.check_levels(parting_switch, [[1, 1, 1, 1, 1, 1, 9], value], 6)
            self.check_levels(parting_switch, [value, value], index)

    def test_memories(self):
        for value in NO_MEMORIES:
            self.check_memory(memory_after, [value, [1, 2]])
            self.check_memory(switches_on, [value])
            for function in (joined, met):
                self.check_memory(function, [value, (3, 1)])
                self.check_memory(function, [(3, 1), value])
                self.check_memory(function, [value, value])

    def test_memory_ahead_of_levels(self):
        for value in NO_MEMORIES:
            self.check_memory(memory_after, [value, [1, 4]])
            self.check_memory(memory_after, [value, None])

    def test_levels_of_other_tops(self):
        for top in TOPS:
            self.assertEqual(memory_of(top, [0, top]), (top,))
            with self.assertRaises(BadLevels) as caught:
                memory_of(top, [0, top, top + 1])
            self.assertEqual(caught.exception.index, 2)

    def test_memories_of_other_tops(self):
        right = set(memories_by_words(6))
        for top in TOPS:
            for length in range(5):
                for value in product(range(top + 2), repeat=length):
                    if value in right and max(value, default=0) <= top:
                        self.assertEqual(memory_after(top, value, []), value)
                    else:
                        with self.assertRaises(BadMemory):
                            memory_after(top, value, [])

    def test_arguments_stay(self):
        first = [3, 1, 2, 1, 0, 2]
        second = [1, 3, 2]
        memory_of(3, first)
        memory_after(3, (3, 1), first)
        parting_switch(3, first, second)
        self.assertEqual((first, second), ([3, 1, 2, 1, 0, 2], [1, 3, 2]))


class InterfaceTest(unittest.TestCase):
    def test_by_name(self):
        self.assertEqual(memories(top=1), [(), (1,)])
        self.assertEqual(memory_of(top=3, history=[3, 1, 2]), (3, 1, 2))
        self.assertEqual(memory_after(top=3, memory=(3, 1), levels=[2]), (3, 1, 2))
        self.assertEqual(switches_on(top=3, memory=(1,)), [(1, 0)])
        self.assertEqual(parting_switch(top=1, first=[1], second=[]), (1, 0))
        self.assertIsNone(parting_switch(top=1, first=[0], second=[]))
        self.assertEqual(joined(top=3, first=(3, 1), second=(2,)), (3, 1, 2))
        self.assertEqual(met(top=3, first=(3, 1), second=(2,)), (2, 1))

    def test_defined_in_their_file(self):
        for function in (memories, memory_of, memory_after, switches_on, parting_switch, joined, met):
            self.assertEqual(function.__module__, "turnweights.memories")
            self.assertIs(getattr(module, function.__name__), function)


if __name__ == "__main__":
    unittest.main()
