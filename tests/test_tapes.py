"""Points 27 and 28, and what point 31 says of the numbers of effects."""

import unittest
from functools import lru_cache, partial

from by_words import TOPS, drawing, drawn_device, drawn_history, made_device, memories_by_words, memory_by_words
from by_words import on_after, output_by_words, short_histories, work_by_words
from turnweights import tapes as module
from turnweights.devices import Device, multiplied
from turnweights.errors import BadLevels, BadMemory, BadPlace, UnknownMark
from turnweights.tapes import Tape, effect, effects, parting_memory
from wrong_values import NO_HISTORIES, NO_INTEGERS, NO_MEMORIES, ValuesCase, nested

EXAMPLE = Device.parse("2 10\n1 0 1\n2 0 2\n2 1 4")
GREAT = 10 ** 999
MANY_EFFECTS = {1: 3, 2: 6, 3: 13, 4: 28, 5: 59, 6: 122}


def led_by_words(top, levels):
    """Point 27: the memories to which levels lead, from all memories."""
    return tuple(memory_by_words([*memory, *levels]) for memory in memories_by_words(top))


@lru_cache
def shortest_by_words(top):
    """For all that lists of levels can do, all shortest lists that do it: a search level by level."""
    found = {led_by_words(top, []): [[]]}
    last = dict(found)
    while last:
        following = {}
        for led, lists in last.items():
            for level in range(top + 1):
                after = tuple(memory_by_words([*memory, level]) for memory in led)
                if after not in found:
                    following.setdefault(after, []).extend([*levels, level] for levels in lists)
        found.update(following)
        last = following
    return found


class EffectTest(unittest.TestCase):
    def check(self, top, levels):
        told = effect(top, levels)
        self.assertIs(type(told), list)
        self.assertEqual(shortest_by_words(top)[led_by_words(top, levels)], [told], levels)

    def test_examples(self):
        self.assertEqual([effect(3, [1, 2, 1]), effect(3, [1, 2, 0, 2, 1])], [[2, 1], [0, 2, 1]])

    def test_some_effects(self):
        for levels, expected in (
                ([], []), ([0], [0]), ([4], [4]), ([2, 2, 2], [2]), ([1, 2], [1, 2]), ([2, 1], [2, 1]),
                ([3, 2, 1], [3, 1]), ([1, 2, 3], [1, 3]), ([1, 4], [4]), ([0, 4], [4]), ([4, 0], [0]), ([3, 0], [0]),
                ([0, 3, 1], [0, 3, 1]), ([2, 0, 3], [0, 3]), ([4, 0, 4, 1, 3, 2], [4, 1, 3, 2]),
                ([1, 3, 2, 3], [1, 3]), ([3, 1, 2, 1], [3, 1]), ([2, 3, 1, 2, 3, 2], [1, 3, 2]),
                ([0, 4, 1, 3, 2], [4, 1, 3, 2]), ([4, 0, 3, 1, 2], [0, 3, 1, 2])):
            with self.subTest(levels=levels):
                self.assertEqual(effect(4, levels), expected)
                self.check(4, levels)

    def test_short_lists(self):
        for top, most in ((1, 6), (2, 6), (3, 5), (4, 4)):
            for levels in short_histories(top, most):
                self.check(top, levels)

    def test_drawn_lists(self):
        draw = drawing(200)
        for top in TOPS:
            for _ in range(200 if top < 5 else 60):
                self.check(top, drawn_history(draw, top, 12))
                # Levels between two others, so that neither 0 nor the top is met.
                self.check(top, [1 + level * (top - 1) // (top + 1) for level in drawn_history(draw, top, 12)])

    def test_many_levels(self):
        self.assertEqual(effect(6, [5, 2, 4, 3] * 3000), [5, 2, 4, 3])
        self.assertEqual(effect(6, list(range(7)) * 2000 + [3]), [6, 3])

    def test_new_each_time(self):
        for levels in ([1, 2, 1], [2, 1], []):
            kept = list(levels)
            effect(3, levels).append(7)
            self.assertEqual(levels, kept)
            self.assertEqual(effect(3, levels), effect(3, kept))


class EffectsTest(unittest.TestCase):
    def test_all_effects(self):
        for top in TOPS:
            told = effects(top)
            self.assertEqual(len(told), MANY_EFFECTS[top])
            self.assertEqual(told, sorted(told, key=lambda levels: (len(levels), levels)))
            self.assertEqual({type(levels) for levels in told}, {list})
            lists = shortest_by_words(top).values()
            self.assertEqual(sorted(told), sorted(levels for found in lists for levels in found))
            for levels in told:
                self.assertEqual(effect(top, levels), levels)

    def test_of_small_tops(self):
        self.assertEqual(effects(1), [[], [0], [1]])
        self.assertEqual(effects(2), [[], [0], [1], [2], [0, 1], [2, 1]])
        self.assertEqual(effects(3), [[], [0], [1], [2], [3], [0, 1], [0, 2], [1, 2], [2, 1], [3, 1], [3, 2],
                                      [0, 2, 1], [3, 1, 2]])

    def test_new_each_time(self):
        told = effects(2)
        told[3].append(9)
        told.pop()
        self.assertEqual(effects(2), [[], [0], [1], [2], [0, 1], [2, 1]])


class PartingMemoryTest(unittest.TestCase):
    def check(self, top, first, second):
        told = parting_memory(top, first, second)
        do_the_same = led_by_words(top, first) == led_by_words(top, second)
        if told is None:
            self.assertTrue(do_the_same)
        else:
            self.assertIn(told, memories_by_words(top))
            self.assertNotEqual(memory_by_words([*told, *first]), memory_by_words([*told, *second]))
        return do_the_same

    def test_drawn_lists(self):
        draw = drawing(201)
        for top in TOPS:
            found = set()
            for _ in range(150):
                first = drawn_history(draw, top, 6)
                found.add(self.check(top, first, drawn_history(draw, top, 6)))
                found.add(self.check(top, first, effect(top, first)))
                found.add(self.check(top, [*first, *drawn_history(draw, top, 3)], first))
            self.assertEqual(found, {True, False})

    def test_all_effects_part(self):
        for top in (1, 2, 3, 4):
            for first in effects(top):
                for second in effects(top):
                    self.assertEqual(self.check(top, first, second), first == second)

    def test_long_lists(self):
        self.assertIsNone(parting_memory(6, [6, 1, 5, 2] * 2000, [3, 6, 1, 5, 2]))
        self.assertTrue(self.check(3, [1, 2] * 1000, [2, 1, 2]))
        self.assertFalse(self.check(3, [1, 2] * 1000, [2, 2]))


def followed_by_words(device, memory, levels):
    """For each place, the switches that are on, the output, and the work of all levels ahead of it."""
    on = set(on_after(device.top, memory))
    weights = device.weights()
    work = 0
    told = [(frozenset(on), device.base + sum(weights.get(switch, 0) for switch in on), work)]
    for level in levels:
        after = {(up, down) for up in range(1, device.top + 1) for down in range(up)
                 if level >= up or level > down and (up, down) in on}
        work += sum(weights.get(switch, 0) * switch[0] for switch in after - on)
        work -= sum(weights.get(switch, 0) * switch[1] for switch in on - after)
        on = after
        told.append((frozenset(on), device.base + sum(weights.get(switch, 0) for switch in on), work))
    return told


class TapeCase(ValuesCase):
    def check_tape(self, tape, device, memory, levels):
        """The tape tells all that a plain list of its levels does."""
        self.assertEqual(repr(tape.levels()), repr(levels))
        for place in range(len(levels) + 1):
            ahead = [*memory, *levels[:place]]
            self.check_told(memory_by_words(ahead), tape.memory_at, place)
            self.check_told(output_by_words(device, ahead), tape.output_at, place)
            for second in range(place, len(levels) + 1):
                work = work_by_words(device, ahead, levels[place:second])
                self.check_told(work, tape.work_between, place, second)

    def check_places(self, tape, device, memory, levels, places):
        """The same for some places, without what is slow."""
        self.assertEqual(tape.levels(), levels)
        told = followed_by_words(device, memory, levels)
        before = 0
        for place in places:
            at = tape.memory_at(place)
            self.assertEqual(at, memory_by_words(at))
            self.assertEqual(on_after(device.top, at), told[place][0])
            self.assertEqual(tape.output_at(place), told[place][1])
            first, second = sorted((before, place))
            self.assertEqual(tape.work_between(first, second), told[second][2] - told[first][2])
            before = place


class TapeTest(TapeCase):
    def test_without_levels(self):
        for top in TOPS:
            device = drawn_device(drawing(202), top)
            for memory in memories_by_words(top):
                self.check_tape(Tape(device, memory), device, memory, [])

    def test_put_in(self):
        for place in range(4):
            for more in ([], [1], [0, 2], [2, 1, 2]):
                tape = Tape(EXAMPLE, (2, 1))
                self.assertIsNone(tape.put_in(0, [1, 2, 0]))
                self.check_tape(tape, EXAMPLE, (2, 1), [1, 2, 0])
                self.assertIsNone(tape.put_in(place, more))
                self.check_tape(tape, EXAMPLE, (2, 1), [1, 2, 0][:place] + more + [1, 2, 0][place:])

    def test_take_out(self):
        levels = [2, 1, 0, 1, 2]
        for place in range(6):
            for many in range(6 - place):
                tape = Tape(EXAMPLE, (1,))
                tape.put_in(0, levels)
                self.assertIsNone(tape.take_out(place, many))
                self.check_tape(tape, EXAMPLE, (1,), levels[:place] + levels[place + many:])

    def test_put_over(self):
        levels = [2, 1, 0, 1, 2]
        for place in range(6):
            for more in ([], [1], [0, 2], [2, 1, 1], [1, 1, 1, 1], [0, 2, 0, 1, 0]):
                tape = Tape(EXAMPLE, ())
                tape.put_in(0, levels)
                if place + len(more) > 5:
                    self.check_error(BadPlace, {}, tape.put_over, place, more)
                    self.check_tape(tape, EXAMPLE, (), levels)
                else:
                    self.assertIsNone(tape.put_over(place, more))
                    self.check_tape(tape, EXAMPLE, (), levels[:place] + more + levels[place + len(more):])

    def changed(self, draw, tape, top, levels, most):
        """What the levels are after a drawn change of the tape."""
        place = draw.randint(0, len(levels))
        many = draw.randint(0, min(most, len(levels) - place))
        more = [draw.randint(0, top) for _ in range(many)]
        what = draw.choice(("in", "in", "in", "out", "over"))
        if what == "out":
            tape.take_out(place, many)
            return levels[:place] + levels[place + many:]
        if what == "over":
            tape.put_over(place, more)
            return levels[:place] + more + levels[place + many:]
        more = drawn_history(draw, top, most)
        tape.put_in(place, more)
        return levels[:place] + more + levels[place:]

    def test_drawn_changes(self):
        draw = drawing(203)
        for top in TOPS:
            for memory in draw.sample(memories_by_words(top), 2):
                device = drawn_device(draw, top)
                tape, levels = Tape(device, memory), []
                for _ in range(12):
                    levels = self.changed(draw, tape, top, levels, 3)[:14]
                    tape.take_out(len(levels), len(tape.levels()) - len(levels))
                    self.check_tape(tape, device, memory, levels)

    def test_more_than_a_thousand_levels(self):
        draw = drawing(204)
        for top in (3, 6):
            device = drawn_device(draw, top)
            memory = draw.choice(memories_by_words(top))
            levels = [draw.randint(0, top) for _ in range(700)] + [draw.randint(1, top - 1) for _ in range(700)]
            tape = Tape(device, memory)
            tape.put_in(0, levels)
            for step in range(40):
                if step % 2:
                    level = draw.randint(0, top)
                    tape.put_in(step // 2, [level])
                    levels.insert(step // 2, level)
                else:
                    levels = self.changed(draw, tape, top, levels, 20)
                places = [draw.randint(0, len(levels)) for _ in range(30)] + [0, len(levels)]
                self.check_places(tape, device, memory, levels, places)
            self.assertGreater(len(levels), 1000)

    def test_one_level_at_a_time(self):
        draw = drawing(205)
        device = drawn_device(draw, 5)
        tape, levels = Tape(device, (4, 2)), []
        for step in range(1200):
            level = draw.randint(1, 4)
            place = (0, step, step // 2)[step % 3]
            tape.put_in(place, [level])
            levels.insert(place, level)
        self.check_places(tape, device, (4, 2), levels, range(0, 1201, 7))
        for step in range(1200):
            tape.take_out((0, (1199 - step) // 2)[step % 2], 1)
            del levels[(0, (1199 - step) // 2)[step % 2]]
            if step % 100 == 0:
                self.check_places(tape, device, (4, 2), levels, range(0, len(levels) + 1, 40))
        self.check_tape(tape, device, (4, 2), [])

    def test_what_is_behind_a_change_stays_or_not(self):
        # Behind the change, the memory is another one for long, and then the same again.
        device = made_device(6, 0, {(6, 0): 1, (5, 1): 10, (4, 2): 100, (4, 3): 1000})
        levels = [5, 3, 4, 3, 4, 2, 4, 1, 4, 3, 0, 6, 3, 4]
        for first in range(7):
            tape = Tape(device, (6, 1))
            tape.put_in(0, [3, *levels])
            self.check_tape(tape, device, (6, 1), [3, *levels])
            tape.put_over(0, [first])
            self.check_tape(tape, device, (6, 1), [first, *levels])
            tape.take_out(0, 1)
            self.check_tape(tape, device, (6, 1), levels)
            tape.put_in(2, [first])
            self.check_tape(tape, device, (6, 1), levels[:2] + [first] + levels[2:])

    def test_asked_in_any_order(self):
        tape = Tape(EXAMPLE, ())
        tape.put_in(0, [2, 1, 2, 0])
        for place in (4, 0, 2, 4, 1, 3, 0):
            for _ in range(2):
                self.assertEqual(tape.memory_at(place), [(), (2,), (2, 1), (2,), ()][place])
                self.assertEqual(tape.output_at(place), [10, 17, 13, 17, 10][place])
                self.assertEqual(tape.work_between(0, place), [0, 13, 9, 17, 13][place])
                self.assertEqual(tape.work_between(place, 4), [13, 0, 4, -4, 0][place])

    def test_great_numbers(self):
        tape = Tape(multiplied(EXAMPLE, GREAT), ())
        tape.put_in(0, [2, 1, 2, 0])
        self.assertEqual([tape.output_at(1), tape.work_between(0, 4)], [17 * GREAT, 13 * GREAT])


class MarksTest(TapeCase):
    def test_numbers(self):
        tape = Tape(EXAMPLE, ())
        self.assertEqual([tape.mark(), tape.mark(), tape.mark()], [0, 1, 2])
        self.assertIsNone(tape.back(1))
        self.assertEqual([tape.mark(), tape.mark()], [2, 3])
        tape.back(0)
        self.assertEqual(repr(tape.mark()), "1")

    def test_back(self):
        tape = Tape(EXAMPLE, (1,))
        tape.mark()
        tape.put_in(0, [2, 0, 1])
        tape.mark()
        tape.take_out(0, 2)
        self.check_tape(tape, EXAMPLE, (1,), [1])
        # Twice to one mark.
        for more in ([2], [1, 2, 1], []):
            tape.back(1)
            self.check_tape(tape, EXAMPLE, (1,), [2, 0, 1])
            tape.put_in(1, more)
            self.check_tape(tape, EXAMPLE, (1,), [2, *more, 0, 1])
        tape.back(0)
        self.check_tape(tape, EXAMPLE, (1,), [])
        self.check_error(UnknownMark, {"number": 1}, tape.back, 1)
        tape.put_in(0, [2])
        self.assertEqual(tape.mark(), 1)
        tape.back(0)
        tape.back(0)
        self.check_tape(tape, EXAMPLE, (1,), [])

    def test_drawn_marks(self):
        draw = drawing(206)
        for top in (2, 4, 6):
            device = drawn_device(draw, top)
            tape, levels, marks = Tape(device, (top,)), [], []
            for _ in range(60):
                what = draw.randrange(4)
                if what == 0:
                    self.assertEqual(tape.mark(), len(marks))
                    marks.append(list(levels))
                elif what == 1 and marks:
                    number = draw.randrange(len(marks))
                    tape.back(number)
                    del marks[number + 1:]
                    levels = list(marks[number])
                elif len(levels) < 9:
                    place, level = draw.randint(0, len(levels)), draw.randint(0, top)
                    tape.put_in(place, [level, level])
                    levels[place:place] = [level, level]
                else:
                    tape.take_out(2, 5)
                    del levels[2:7]
                self.check_tape(tape, device, (top,), levels)
                self.check_error(UnknownMark, {"number": len(marks)}, tape.back, len(marks))

    def test_two_tapes_have_their_own_marks(self):
        first, second = Tape(EXAMPLE, ()), Tape(EXAMPLE, ())
        first.put_in(0, [1])
        first.mark()
        self.check_error(UnknownMark, {"number": 0}, second.back, 0)
        self.assertEqual(second.mark(), 0)
        second.put_in(0, [2])
        second.back(0)
        self.check_tape(second, EXAMPLE, (), [])
        self.check_tape(first, EXAMPLE, (), [1])


class WrongValuesTest(TapeCase):
    device = Device.parse("3 4\n2 1 5\n3 0 -7")

    def test_levels(self):
        for value, index in NO_HISTORIES:
            self.check_error(BadLevels, {"index": index}, partial(effect, 3), value)
            self.check_error(BadLevels, {"index": index}, partial(parting_memory, 3), value, [1])
            self.check_error(BadLevels, {"index": index}, partial(parting_memory, 3), [1], value)
            self.check_error(BadLevels, {"index": index}, partial(parting_memory, 3), value, [1, 2, 3, 4, 5])

    def test_other_tops(self):
        for top in TOPS:
            self.assertEqual(effect(top, [0, top]), [top])
            self.check_error(BadLevels, {"index": 1}, partial(effect, top), [0, top + 1])
            self.check_error(BadMemory, {}, partial(Tape, Device.parse(f"{top} 0")), (top + 1,))
            tape = Tape(Device.parse(f"{top} 0"), (top,))
            self.check_error(BadLevels, {"index": 2}, tape.put_in, 0, [0, top, top + 1])

    def test_memories(self):
        for value in NO_MEMORIES:
            self.check_error(BadMemory, {}, partial(Tape, self.device), value)

    def tape(self):
        tape = Tape(self.device, (3, 1))
        tape.put_in(0, [2, 0, 3, 1])
        return tape

    def test_levels_of_tapes(self):
        tape = self.tape()
        for value, index in NO_HISTORIES:
            for place in (0, 4, 5, None, True, -1):
                self.check_error(BadLevels, {"index": index}, tape.put_in, place, value)
                self.check_error(BadLevels, {"index": index}, tape.put_over, place, value)
        self.check_tape(tape, self.device, (3, 1), [2, 0, 3, 1])

    def test_places(self):
        tape = self.tape()
        for value in NO_INTEGERS + (-1, 5, GREAT, -GREAT, nested(50)):
            for levels in ([], [1]):
                self.check_error(BadPlace, {}, tape.put_in, value, levels)
                self.check_error(BadPlace, {}, tape.put_over, value, levels)
            for many in (0, 1, None, -1):
                self.check_error(BadPlace, {}, tape.take_out, value, many)
            self.check_error(BadPlace, {}, tape.take_out, 0, value)
            self.check_error(BadPlace, {}, tape.memory_at, value)
            self.check_error(BadPlace, {}, tape.output_at, value)
            for place in (0, 4):
                self.check_error(BadPlace, {}, tape.work_between, value, place)
                self.check_error(BadPlace, {}, tape.work_between, place, value)
        self.check_tape(tape, self.device, (3, 1), [2, 0, 3, 1])

    def test_too_few_levels(self):
        tape = self.tape()
        for place in range(5):
            self.check_error(BadPlace, {}, tape.take_out, place, 5 - place)
            self.check_error(BadPlace, {}, tape.take_out, place, GREAT)
            self.check_error(BadPlace, {}, tape.put_over, place, [1] * (5 - place))
            self.check_error(BadPlace, {}, tape.put_over, place, [1] * 70)
        self.check_tape(tape, self.device, (3, 1), [2, 0, 3, 1])

    def test_second_place_before_the_first_one(self):
        tape = self.tape()
        for first in range(5):
            for second in range(first):
                self.check_error(BadPlace, {}, tape.work_between, first, second)
            self.assertEqual(tape.work_between(first, first), 0)

    def test_marks(self):
        tape = self.tape()
        for value in NO_INTEGERS + (0, -1, 1, GREAT, nested(50)):
            self.check_error(UnknownMark, {"number": value}, tape.back, value)
        tape.mark()
        tape.take_out(0, 3)
        for value in NO_INTEGERS + (-1, 1, GREAT, -GREAT, nested(50)):
            self.check_error(UnknownMark, {"number": value}, tape.back, value)
        self.check_tape(tape, self.device, (3, 1), [1])
        self.assertEqual(tape.mark(), 1)


class CopiesTest(TapeCase):
    def test_what_is_handed_in(self):
        device, levels = Device.parse("3 4\n2 1 5"), [2, 0, 3]
        tape = Tape(device, ())
        tape.put_in(0, levels)
        levels.append(1)
        levels.clear()
        self.check_tape(tape, device, (), [2, 0, 3])
        more = [1, 1]
        tape.put_over(1, more)
        more[0] = 3
        self.check_tape(tape, device, (), [2, 1, 1])
        self.assertEqual(str(device), "3 4\n2 1 5")

    def test_what_is_told(self):
        tape = Tape(EXAMPLE, ())
        tape.put_in(0, [2, 1])
        tape.mark()
        tape.levels().append(0)
        tape.levels().clear()
        self.check_tape(tape, EXAMPLE, (), [2, 1])
        told = tape.levels()
        tape.put_in(2, [0])
        self.assertEqual(told, [2, 1])
        tape.back(0)
        tape.put_in(0, [1])
        tape.back(0)
        self.check_tape(tape, EXAMPLE, (), [2, 1])

    def test_tapes_of_one_device(self):
        first, second = Tape(EXAMPLE, (1,)), Tape(EXAMPLE, (1,))
        first.put_in(0, [2])
        self.check_tape(first, EXAMPLE, (1,), [2])
        self.check_tape(second, EXAMPLE, (1,), [])


class InterfaceTest(unittest.TestCase):
    def test_by_name(self):
        self.assertEqual(effect(top=3, levels=[1, 2, 1]), [2, 1])
        self.assertEqual(effects(top=1), [[], [0], [1]])
        self.assertIsNone(parting_memory(top=3, first=[1, 2, 1], second=[2, 1]))
        tape = Tape(device=EXAMPLE, memory=(2, 1))
        self.assertIsNone(tape.put_in(place=0, levels=[1, 2, 0]))
        self.assertIsNone(tape.put_over(place=1, levels=[1]))
        self.assertIsNone(tape.take_out(place=0, many=1))
        self.assertEqual(tape.levels(), [1, 0])
        self.assertEqual([tape.memory_at(place=1), tape.output_at(place=2)], [(2, 1), 10])
        self.assertEqual(tape.work_between(first=0, second=1), 0)
        self.assertEqual(tape.mark(), 0)
        self.assertIsNone(tape.back(number=0))

    def test_defined_in_their_file(self):
        for thing in (effect, effects, parting_memory, Tape):
            self.assertEqual(thing.__module__, "turnweights.tapes")
            self.assertIs(getattr(module, thing.__name__), thing)
        for name in ("levels", "put_in", "take_out", "put_over", "memory_at", "output_at", "work_between", "mark",
                     "back"):
            self.assertIn(name, vars(Tape))


if __name__ == "__main__":
    unittest.main()
