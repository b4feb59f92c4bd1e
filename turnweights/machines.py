"""Machines: levels in, numbers out; which of them are devices, and devices behind devices."""

from turnweights.errors import BadMachine, NotALevel, OtherTops
from turnweights.memories import check_levels, is_level, is_memory, memories, memory_of, moved, moves
from turnweights.outputs import curve_pairs, device_of, output_with, outputs_with_all
from turnweights.reaching import reached
from turnweights.values import is_integer

_MOST_STATES = 300


class Machine:
    """A top and states, each with an output and the number of the next state for each level. It never changes."""

    def __init__(self, top, states):
        if not isinstance(states, list) or not states:
            raise BadMachine(0)
        for number, state in enumerate(states):
            if number == _MOST_STATES or not _is_state(top, len(states), state):
                raise BadMachine(number)
        self.top = top
        self._states = [(output, list(nexts)) for output, nexts in states]

    def states(self):
        """A new list of the pairs (output, nexts)."""
        return [(output, list(nexts)) for output, nexts in self._states]

    def __eq__(self, other):
        return isinstance(other, Machine) and self.top == other.top and self._states == other._states


def machine_output(machine, history):
    """The output of a machine after a history; raises BadLevels(index)."""
    check_levels(machine.top, history)
    states = machine.states()
    state = 0
    for level in history:
        state = states[state][1][level]
    return states[state][0]


def machine_of(device):
    """A machine with the outputs of a device: it has a state for each memory."""
    outputs = outputs_with_all(device)
    numbers = {memory: number for number, memory in enumerate(outputs)}
    return Machine(device.top, [
        (outputs[memory], [numbers[following] for following in moves(device.top, memory)]) for memory in outputs
    ])


def put_behind(first, second):
    """A machine that a second device behind a first one is; raises NotALevel(history, number)."""
    outputs = outputs_with_all(first)
    for memory in outputs:
        # A memory is a shortest history with it, and shorter ones come first.
        if not is_level(second.top, outputs[memory]):
            raise NotALevel(list(memory), outputs[memory])

    def nexts(pair):
        return [(after, moved(pair[1], outputs[after])) for after in moves(first.top, pair[0])]

    pairs = list(reached(((), moved((), outputs[()])), nexts))
    numbers = {pair: number for number, pair in enumerate(pairs)}
    return Machine(first.top, [
        (output_with(second, pair[1]), [numbers[following] for following in nexts(pair)]) for pair in pairs
    ])


def judged(machine):
    """A tuple ("device", device, pairs), or ("bars", histories, numbers)."""
    top = machine.top
    states = machine.states()

    def nexts(pair):
        return list(zip(states[pair[0]][1], moves(top, pair[1])))

    ways = reached((0, ()), nexts)
    found = {}
    for state, memory in ways:
        other = found.setdefault(memory, state)
        if states[state][0] != states[other][0]:
            return "bars", [ways[state, memory], ways[other, memory]], [1, -1]
    outputs = {memory: states[found[memory]][0] for memory in found}
    device = device_of(top, outputs[()], {pair: outputs[memory_of(top, list(pair))] for pair in curve_pairs(top)})
    for memory in memories(top):
        if outputs[memory] != output_with(device, memory):
            return "bars", _four_histories(memory), [-1, 1, 1, -1]
    return "device", device, list(ways)


def are_pairs(device, machine, pairs):
    """Whether any value is pairs for a machine and a device; raises OtherTops()."""
    if device.top != machine.top:
        raise OtherTops()
    states = machine.states()
    if not isinstance(pairs, list) or not all([_is_pair(device.top, len(states), pair) for pair in pairs]):
        return False
    known = {pair: True for pair in pairs}
    if len(known) != len(pairs) or (0, ()) not in known:
        return False
    outputs = outputs_with_all(device)
    for state, memory in pairs:
        output, nexts = states[state]
        if output != outputs[memory] or not all([pair in known for pair in zip(nexts, moves(device.top, memory))]):
            return False
    return True


def _is_state(top, many, value):
    """Whether any value is a state of a machine with so many states."""
    if not isinstance(value, tuple) or len(value) != 2:
        return False
    output, nexts = value
    if not is_integer(output) or not isinstance(nexts, list) or len(nexts) != top + 1:
        return False
    return all([_is_number(many, number) for number in nexts])


def _is_pair(top, many, value):
    """Whether any value is a pair of one of so many states and a memory."""
    return isinstance(value, tuple) and len(value) == 2 and _is_number(many, value[0]) and is_memory(top, value[1])


def _is_number(many, value):
    """Whether any value is the number of one of so many states."""
    return is_integer(value) and 0 <= value < many


def _four_histories(memory):
    """The histories of bars, for a memory of three or more entries with another output than the device.

    The device has the outputs with all shorter memories.
    """
    is_even = len(memory) % 2 == 0
    history = list(memory if is_even else memory[:-1])
    high = memory[-2] if is_even else memory[-1]
    return [history, history + [high], [high, history[-1]], [high]]
