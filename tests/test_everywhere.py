"""Points 1 to 3 over the whole program: its interface, and what holds for all of its functions and methods."""

import copy
import importlib
import inspect
import unittest

from by_words import memories_by_words
from turnweights import errors
from turnweights.bars import are_bars, are_divided, is_fit
from turnweights.desks import Desk, torn_records
from turnweights.devices import Device, added, multiplied
from turnweights.live import Live
from turnweights.machines import Machine, are_pairs, judged, machine_of, machine_output, put_behind
from turnweights.measures import bars, divided_bars, fit, settled, settling, unsettled, whole_fit
from turnweights.memories import joined, memories, memory_after, memory_of, met, parting_switch, switches_on
from turnweights.outputs import curves, device_of, output_after, outputs_along, parting_history
from turnweights.places import are_crossings, crossings, place_of
from turnweights.ranges import are_end_numbers, direction, end_device, end_numbers, is_direction, span
from turnweights.stretches import are_stretch_numbers, is_stretched_fit, stretch, stretch_numbers, stretched_fit
from turnweights.tapes import Tape, effect, effects, parting_memory
from turnweights.unseen import alike_memories, are_alike, fitting, now, parting_levels
from turnweights.ways import cheapest_way, distance, least_work, outputs_had, shortest_way, way_to_output
from turnweights.wide import are_wide_bars, keeps_all, wide_bars, wide_fit
from turnweights.work import are_numbers, closed_loops, giving_loop, least_share, loop_work, potentials, share_loop
from turnweights.work import share_numbers, work_at
from wide_words import RECORDS, TORN

FUNCTIONS = {
    "devices": "added(first, second) multiplied(device, number)",
    "memories": "memories(top) memory_of(top, history) memory_after(top, memory, levels) switches_on(top, memory) "
                "parting_switch(top, first, second) joined(top, first, second) met(top, first, second)",
    "outputs": "output_after(device, history) outputs_along(device, memory, levels) curves(device) "
               "device_of(top, base, some_curves) parting_history(first, second)",
    "bars": "are_bars(top, records, numbers) are_divided(top, records, pair) is_fit(top, records, fit)",
    "measures": "fit(top, measures) bars(top, measures) whole_fit(top, measures) divided_bars(top, measures) "
                "settled(top, measures, history) settling(top, measures, history) unsettled(top, measures, history)",
    "machines": "machine_output(machine, history) machine_of(device) put_behind(first, second) judged(machine) "
                "are_pairs(device, machine, pairs)",
    "work": "work_at(device, memory, levels) loop_work(device, low, high) closed_loops(top, history) "
            "giving_loop(device) potentials(device) least_share(device) share_loop(device) share_numbers(device) "
            "are_numbers(device, share, numbers)",
    "ways": "distance(top, first, second) shortest_way(top, first, second) outputs_had(device) "
            "way_to_output(device, memory, output) least_work(device, first, second, many) "
            "cheapest_way(device, first, second, many)",
    "unseen": "are_alike(device, first, second) parting_levels(device, first, second) alike_memories(device) "
              "fitting(device, view) now(device, view)",
    "tapes": "effect(top, levels) effects(top) parting_memory(top, first, second)",
    "places": "place_of(top, memory) crossings(top, histories, numbers) "
              "are_crossings(top, histories, numbers, crossings)",
    "wide": "wide_fit(top, records, rising) wide_bars(top, records, rising) keeps_all(device, records, rising) "
            "are_wide_bars(top, records, numbers, rising)",
    "stretches": "stretch(top, records, rising) stretched_fit(top, records, rising) "
                 "stretch_numbers(top, records, rising) is_stretched_fit(top, records, fraction, fit, rising) "
                 "are_stretch_numbers(top, records, fraction, numbers, rising)",
    "ranges": "span(top, records, history, rising) end_device(top, records, history, side, rising) "
              "end_numbers(top, records, history, side, rising) direction(top, records, history, side, rising) "
              "are_end_numbers(top, records, history, side, numbers, rising) "
              "is_direction(top, records, history, side, value, rising)",
    "desks": "torn_records(top, records, rising)",
}
METHODS = {
    ("devices", "Device"): "weights(self)",
    ("machines", "Machine"): "__init__(self, top, states) states(self)",
    ("tapes", "Tape"): "__init__(self, device, memory) levels(self) put_in(self, place, levels) "
                       "take_out(self, place, many) put_over(self, place, levels) memory_at(self, place) "
                       "output_at(self, place) work_between(self, first, second) mark(self) back(self, number)",
    ("live", "Live"): "__init__(self, device) device(self) memory(self) output(self) work(self) sheet(self) "
                      "step(self, level) change_weight(self, switch, weight) change_base(self, base) mark(self) "
                      "back(self, number)",
    ("desks", "Desk"): "__init__(self, top, rising) records(self) put(self, history, low, high) "
                       "take_out(self, number) fit(self) bars(self) torn(self) span(self, history) "
                       "open_memories(self) widest(self) mark(self) back(self, number)",
}
ERRORS = {
    "InvalidText": ["row"], "OtherTops": [], "BadLevels": ["index"], "BadMemory": [], "BadCurves": [],
    "BadRecords": ["index"], "NoFit": [], "BadMachine": ["number"], "NotALevel": ["history", "number"], "BadView": [],
    "BadPlace": [], "BadSwitch": [], "BadWeight": [], "UnknownMark": ["number"]}


def signatures(text):
    """Pairs of a name and the names of its parameters, of a text of them."""
    return [(part.split("(")[0], part.split("(")[1].split(", ")) for part in text.rstrip(")").split(") ")]


class InterfaceTest(unittest.TestCase):
    def check_parameters(self, function, parameters):
        told = inspect.signature(function).parameters
        self.assertEqual(list(told), parameters, function)
        for parameter in told.values():
            self.assertEqual((parameter.kind, parameter.default), (parameter.POSITIONAL_OR_KEYWORD, parameter.empty))

    def test_functions(self):
        for name, text in FUNCTIONS.items():
            module = importlib.import_module(f"turnweights.{name}")
            for function, parameters in signatures(text):
                with self.subTest(function=function):
                    told = vars(module)[function]
                    self.assertEqual((told.__module__, told.__name__), (module.__name__, function))
                    self.check_parameters(told, parameters)

    def test_methods(self):
        for (name, owner), text in METHODS.items():
            module = importlib.import_module(f"turnweights.{name}")
            told = vars(module)[owner]
            self.assertEqual((told.__module__, told.__name__), (module.__name__, owner))
            for method, parameters in signatures(text):
                with self.subTest(owner=owner, method=method):
                    self.check_parameters(vars(told)[method], parameters)
        self.assertIsInstance(vars(Device)["parse"], staticmethod)
        self.check_parameters(Device.parse, ["text"])
        for method in ("__str__", "__eq__"):
            self.assertIn(method, vars(Device))
        self.assertIn("__eq__", vars(Machine))

    def test_errors(self):
        self.assertEqual(errors.WeightError.__bases__, (ValueError,))
        for name, attributes in ERRORS.items():
            told = vars(errors)[name]
            self.assertEqual((told.__bases__, told.__module__), ((errors.WeightError,), "turnweights.errors"))
            values = [[name], None][:len(attributes)]
            self.assertEqual(vars(told(*values)), dict(zip(attributes, values)))


DEVICE = Device.parse("3 2\n1 0 5\n2 0 -4\n3 1 7")
SECOND = Device.parse("3 2\n1 0 1")
RISING = Device.parse("2 10\n1 0 1\n2 0 2\n2 1 4")
FIRST_OF_TWO = Device.parse("2 0\n2 1 1")
MEASURES = [([3, 1], 5), ([2], 7), ([3, 1, 2], 11)]
CROSSED = [*MEASURES, ([2, 1], 2)]
HALVES = [([4, 1], 0), ([3, 2], 0), ([3, 1], 0), ([5, 1, 4, 2], 1), ([4, 2, 3], 0), ([5, 1, 3], 0)]
HISTORIES = [[3, 1], [2], [3, 1, 2], [2, 1]]
MACHINE = Machine(1, [(0, [0, 1]), (5, [0, 2]), (6, [0, 2])])
# Each function with arguments, and most with all the kinds of results that they have.
CALLS = (
    (Device.parse, "2 10\n1 0 1"), (added, DEVICE, SECOND), (multiplied, DEVICE, -3),
    (memories, 3), (memory_of, 3, [3, 1, 2]), (memory_after, 3, (3, 1), [2, 3, 1]), (switches_on, 3, (3, 1)),
    (parting_switch, 3, [3, 1], [2]), (joined, 3, (3, 1), (2,)), (met, 3, (3, 1), (2,)),
    (output_after, DEVICE, [2, 1]), (outputs_along, DEVICE, (3, 1), [2, 3]), (curves, DEVICE),
    (device_of, 2, 10, {(2, 2): 17, (1, 1): 11, (2, 1): 13}), (parting_history, DEVICE, SECOND),
    (are_bars, 3, CROSSED, [1, 1, -1, -1]), (are_divided, 3, CROSSED, (2, [1, 1, 1, 1])),
    (is_fit, 3, MEASURES, (1, 0, {(3, 0): 5})), (fit, 3, MEASURES), (fit, 3, CROSSED), (bars, 3, CROSSED),
    (bars, 3, MEASURES), (whole_fit, 3, MEASURES), (divided_bars, 5, HALVES), (settled, 3, MEASURES, [2, 1]),
    (settling, 3, MEASURES, [2, 1]), (unsettled, 3, MEASURES, [1]),
    (Machine, 1, [(0, [0, 1]), (5, [0, 1])]), (machine_output, MACHINE, [1, 1]), (machine_of, RISING),
    (put_behind, FIRST_OF_TWO, RISING), (judged, MACHINE), (judged, Machine(1, [(0, [0, 1]), (5, [0, 1])])),
    (are_pairs, Device.parse("1 0\n1 0 5"), Machine(1, [(0, [0, 1]), (5, [0, 1])]), [(0, ()), (1, (1,))]),
    (work_at, DEVICE, (3, 1), [2, 0]), (loop_work, DEVICE, 1, 3), (closed_loops, 3, [2, 1, 2, 0]),
    (giving_loop, DEVICE), (potentials, RISING), (least_share, DEVICE), (share_loop, DEVICE), (share_numbers, DEVICE),
    (are_numbers, Device.parse("1 0"), (0, 1), {(1,): 0, (): 0}),
    (distance, 3, (3, 1, 2), (3, 2)), (shortest_way, 3, (3, 1, 2), (3, 2)), (outputs_had, DEVICE),
    (way_to_output, DEVICE, (3,), 3), (least_work, DEVICE, (), (3, 1), 4), (cheapest_way, DEVICE, (), (3, 1), 4),
    (are_alike, DEVICE, (1,), (2,)), (parting_levels, DEVICE, (1,), (2, 1)), (alike_memories, DEVICE),
    (fitting, RISING, ([1], [17, 13])), (now, RISING, ([1], [17, 13])),
    (effect, 3, [1, 2, 1]), (effects, 3), (parting_memory, 3, [1, 2], [2]),
    (place_of, 4, (3, 1)), (crossings, 3, HISTORIES, [-1, -1, 1, 1]),
    (are_crossings, 3, HISTORIES, [-1, -1, 1, 1], [((3, 1), (2,), -1)]),
    (wide_fit, 4, RECORDS, False), (wide_fit, 3, TORN, False), (wide_bars, 4, RECORDS, True),
    (wide_bars, 3, TORN, False),
    (keeps_all, DEVICE, [([1], 0, 9)], False), (are_wide_bars, 4, RECORDS, [0, -1, 1], True),
    (stretch, 3, TORN, False), (stretched_fit, 3, TORN, True), (stretch_numbers, 3, TORN, False),
    (is_stretched_fit, 3, TORN, (1, 2), (2, 0, {(3, 0): 1}), False),
    (are_stretch_numbers, 3, TORN, (1, 4), [-1, -1, 1, 1], False),
    (span, 4, RECORDS, [4, 1], False), (end_device, 4, RECORDS, [4, 1], 0, False),
    (end_numbers, 4, RECORDS, [4, 1], 1, False), (direction, 2, [([2], 0, 10)], [1], 0, True),
    (are_end_numbers, 4, RECORDS, [4, 1], 0, [1, 1, -1], False),
    (is_direction, 2, [([2], 0, 10)], [1], 0, (-1, {(2, 0): 1}), True), (torn_records, 3, TORN, False),
)


def shown(value):
    """A text of a value, and of what devices and machines within it are."""
    if isinstance(value, Device):
        return f"device {value.top} {value.base} {sorted(value.weights().items())}"
    if isinstance(value, Machine):
        return f"machine {value.top} {value.states()}"
    if isinstance(value, dict):
        return f"dict {sorted((shown(key), shown(value[key])) for key in value)}"
    if isinstance(value, (list, tuple)):
        return f"{type(value).__name__} {[shown(entry) for entry in value]}"
    return repr(value)


def spoiled(value):
    """Changes all that can be changed within a value."""
    if isinstance(value, (list, tuple)):
        for entry in value:
            spoiled(entry)
    if isinstance(value, dict):
        for key in value:
            spoiled(value[key])
        value.clear()
        value["spoiled"] = True
    if isinstance(value, list):
        value.append("spoiled")
        value.reverse()
    if isinstance(value, Device):
        spoiled(value.weights())
    if isinstance(value, Machine):
        spoiled(value.states())


class FunctionsTest(unittest.TestCase):
    def test_all_are_called_here(self):
        called = {call[0].__name__ for call in CALLS}
        for text in FUNCTIONS.values():
            self.assertLessEqual({name for name, _ in signatures(text)}, called)

    def test_arguments_stay_and_results_are_new(self):
        for function, *values in CALLS:
            with self.subTest(function=function):
                kept, told = shown(values), shown(function(*values))
                self.assertEqual(shown(values), kept)
                # What is told is not what was handed in, nor what the program keeps.
                spoiled(function(*values))
                self.assertEqual(shown(values), kept)
                self.assertEqual(shown(function(*values)), told)

    def test_what_is_handed_in_is_not_kept(self):
        for function, *values in CALLS:
            with self.subTest(function=function):
                handed = copy.deepcopy(values)
                result = function(*handed)
                told = shown(result)
                spoiled([value for value in handed if not isinstance(value, (Device, Machine))])
                self.assertEqual(shown(result), told)
                self.assertEqual(shown(function(*values)), told)

    def test_the_order_of_keys_means_nothing(self):
        def turned(value):
            if isinstance(value, dict):
                return {key: turned(value[key]) for key in reversed(list(value))}
            return type(value)(map(turned, value)) if isinstance(value, (list, tuple)) else value

        for function, *values in CALLS:
            self.assertEqual(shown(function(*turned(values))), shown(function(*values)), function)

    def test_called_in_any_order(self):
        told = [shown(function(*values)) for function, *values in CALLS]
        again = [shown(function(*values)) for function, *values in reversed(CALLS)]
        self.assertEqual(again[::-1], told)


class MethodsTest(unittest.TestCase):
    def test_methods_without_a_result(self):
        tape, live, desk = Tape(RISING, ()), Live(RISING), Desk(2, False)
        desk.put([1], 0, 0)
        for call in (lambda: tape.put_in(0, [1, 2]), lambda: tape.put_over(0, [2]), lambda: tape.take_out(0, 1),
                     lambda: tape.back(tape.mark()), lambda: live.change_base(5), lambda: live.back(live.mark()),
                     lambda: desk.take_out(0), lambda: desk.back(desk.mark())):
            self.assertIsNone(call())

    def test_what_methods_tell_is_new(self):
        tape, live, desk = Tape(RISING, (1,)), Live(RISING), Desk(2, True)
        tape.put_in(0, [2, 1])
        for level in (2, 0, 1):
            live.step(level)
        live.change_weight((2, 1), 9)
        desk.put([2, 1], 0, 5)
        desk.put([2], -9, -8)
        machine = Machine(1, [(0, [0, 1]), (5, [0, 1])])
        for call in (tape.levels, lambda: tape.memory_at(2), live.device, live.memory, live.sheet, desk.records,
                     desk.fit, desk.bars, desk.torn, machine.states, RISING.weights):
            told = shown(call())
            spoiled(call())
            self.assertEqual(shown(call()), told)

    def test_objects_do_not_share_anything(self):
        for make, change in ((lambda: Tape(RISING, ()), lambda tape: tape.put_in(0, [1])),
                             (lambda: Live(RISING), lambda live: live.step(1)),
                             (lambda: Desk(2, False), lambda desk: desk.put([1], 0, 0))):
            first, second = make(), make()
            change(first)
            first.mark()
            self.assertEqual(second.mark(), 0)
            for name in ("levels", "sheet", "memory", "records"):
                if hasattr(second, name):
                    self.assertEqual(getattr(second, name)(), getattr(make(), name)())


class OverviewTest(unittest.TestCase):
    """Points 1 and 2 for one device, from all sides."""

    def test_one_device(self):
        device = DEVICE
        measures = [(list(memory), output_after(device, list(memory))) for memory in memories_by_words(3)]
        self.assertEqual(whole_fit(3, measures), device)
        self.assertEqual(device_of(3, device.base, curves(device)), device)
        self.assertEqual(judged(machine_of(device))[1], device)
        self.assertEqual((giving_loop(device) is None) + (potentials(device) is None), 1)
        records = [(history, output, output) for history, output in measures]
        self.assertEqual(wide_fit(3, records, False), device)
        self.assertIsNone(wide_fit(3, records, True))
        live, levels = Live(device), [3, 1, 2, 0, 2, 1, 3]
        for level in levels:
            live.step(level)
        tape = Tape(device, ())
        tape.put_in(0, levels)
        self.assertEqual(live.work(), tape.work_between(0, len(levels)))
        work = work_at(device, (), list(live.memory()))
        self.assertEqual(live.work(), work + sum(entry[2] for entry in live.sheet()))
        self.assertEqual([live.memory(), live.output()], [tape.memory_at(7), tape.output_at(7)])
        self.assertEqual(memory_of(3, levels), live.memory())


if __name__ == "__main__":
    unittest.main()
