"""Outputs: what devices tell after histories, and what parts them."""

from turnweights.devices import Device
from turnweights.errors import BadCurves, OtherTops
from turnweights.memories import check_levels, check_memory, is_level, memories, memory_of, moved
from turnweights.memories import switches, switches_on
from turnweights.values import is_integer


def output_after(device, history):
    """The output after a history; raises BadLevels(index)."""
    return output_with(device, memory_of(device.top, history))


def outputs_along(device, memory, levels):
    """The outputs with a memory and after each level that follows; raises BadMemory(), then BadLevels(index)."""
    check_memory(device.top, memory)
    check_levels(device.top, levels)
    # There are only a few memories, however many levels there are.
    known = {memory: output_with(device, memory)}
    outputs = [known[memory]]
    for level in levels:
        memory = moved(memory, level)
        if memory not in known:
            known[memory] = output_with(device, memory)
        outputs.append(known[memory])
    return outputs


def curves(device):
    """The dict from all pairs (a, b) of levels with 1 <= b <= a to the outputs after [a, b]."""
    return {(high, low): output_after(device, [high, low]) for high, low in curve_pairs(device.top)}


def device_of(top, base, some_curves):
    """The device with these curves and this base; raises BadCurves()."""
    if not _are_curves(top, some_curves):
        raise BadCurves()
    weights = {}
    for up, down in switches(top):
        # Just this switch is on after [up, down + 1], and neither after [up, down] nor with the next lower up.
        with_up = _told(base, some_curves, up, down + 1) - _told(base, some_curves, up, down)
        without = _told(base, some_curves, up - 1, down + 1) - _told(base, some_curves, up - 1, down)
        weights[up, down] = with_up - without
    return Device(top, base, weights)


def parting_history(first, second):
    """A shortest history after which the outputs of two devices differ, or None; raises OtherTops()."""
    if first.top != second.top:
        raise OtherTops()
    one_level = [[level] for level in range(1, first.top + 1)]
    two_levels = [[high, low] for high, low in curve_pairs(first.top)]
    # No other history of at most two levels has a memory of its own.
    for history in [[], *one_level, *two_levels]:
        if output_after(first, history) != output_after(second, history):
            return history
    return None


def output_with(device, memory):
    """The output with a memory; raises BadMemory()."""
    weights = device.weights()
    return device.base + sum([weights.get(switch, 0) for switch in switches_on(device.top, memory)])


def outputs_with_all(device):
    """A dict from all memories to the outputs with them, in the order of memories."""
    return {memory: output_with(device, memory) for memory in memories(device.top)}


def curve_pairs(top):
    """The pairs (a, b) of levels with 1 <= b <= a."""
    return [(high, low) for high in range(1, top + 1) for low in range(1, high + 1)]


def _are_curves(top, value):
    """Whether any value is a dict from just these pairs to integers."""
    if not isinstance(value, dict) or len(value) != len(curve_pairs(top)):
        return False
    return all([_is_pair(top, key) and is_integer(value[key]) for key in value])


def _is_pair(top, value):
    """Whether any value is one of these pairs."""
    if not isinstance(value, tuple) or len(value) != 2:
        return False
    high, low = value
    return is_level(top, high) and is_level(top, low) and 1 <= low <= high


def _told(base, some_curves, high, low):
    """What curves and a base tell of the output after [high, low]."""
    if high == 0 or low == 0:
        return base
    return some_curves[high, min(high, low)]
