"""Wide records: outputs that are known from a low to a high, fits that keep them, and bars that show that none does."""

from turnweights.bars import sums_over
from turnweights.devices import Device
from turnweights.errors import BadRecords
from turnweights.limits import Limits
from turnweights.memories import are_levels, memory_of
from turnweights.outputs import output_after
from turnweights.places import inner_switches, outer_switches, place_of
from turnweights.values import are_integers, is_small_integer

_MOST_RECORDS = 24


def wide_fit(top, records, rising):
    """A wide fit, or a rising fit, or None; raises BadRecords(index)."""
    check_wide(top, records)
    return device_keeping(top, records, rising)


def wide_bars(top, records, rising):
    """Wide bars, or rising bars, or None; raises BadRecords(index)."""
    check_wide(top, records)
    indexes = limits_of(top, records, rising, (0, 1)).round_below()
    return None if indexes is None else numbers_of(records, indexes)


def keeps_all(device, records, rising):
    """Whether a device is a wide fit, or a rising fit; raises BadRecords(index)."""
    check_wide(device.top, records)
    if rising and not is_rising(device.weights()):
        return False
    return all([low <= output_after(device, history) <= high for history, low, high in records])


def are_wide_bars(top, records, numbers, rising):
    """Whether any value is wide bars, or rising bars; raises BadRecords(index)."""
    check_wide(top, records)
    return are_barring(top, records, numbers, rising) and least_sum(records, numbers) > 0


def check_wide(top, records):
    """Raises BadRecords(index) if any value is no wide records."""
    if not isinstance(records, list):
        raise BadRecords(0)
    for index, record in enumerate(records):
        if index == _MOST_RECORDS or not _is_wide(top, record):
            raise BadRecords(index)


def are_bounds(low, high):
    """Whether any values are a low and a high."""
    return is_small_integer(low) and is_small_integer(high) and low <= high


def is_full(records):
    """Whether no more records may stand beside these."""
    return len(records) >= _MOST_RECORDS


def is_rising(weights):
    """Whether no weight is below 0."""
    return all([weights[switch] >= 0 for switch in weights])


def device_keeping(top, records, rising):
    """A device that keeps right records, or None."""
    unknowns = limits_of(top, records, rising, (0, 1)).keeping()
    if unknowns is None:
        return None
    base, weights = base_and_weights(top, unknowns)
    return Device(top, base, weights)


def are_barring(top, records, numbers, rising):
    """Whether any value is numbers for right records with the sums of bars, but for their least sum."""
    if not are_integers(numbers, len(records)):
        return False
    total, *sums = sums_over(top, [record[0] for record in records], numbers)
    return total == 0 and (max(sums) <= 0 if rising else not any(sums))


def least_sum(records, numbers):
    """The least sum of the numbers of right records."""
    return sum([number * (low if number > 0 else high) for number, (_, low, high) in zip(numbers, records)])


def greatest_sum(records, numbers):
    """The greatest sum of the numbers of right records."""
    return sum([number * (high if number > 0 else low) for number, (_, low, high) in zip(numbers, records)])


def limits_of(top, records, rising, fraction):
    """The limits that right records, stretched by a fraction, set to outputs that are its bottom times as great.

    The unknowns are the sums for the numbers of outer switches that are on, the base within them, and after them the
    sums for the numbers of inner switches, below 0 instead of above. So an output is the difference of two unknowns.
    """
    more, bottom = fraction
    limits = []
    for history, low, high in records:
        outer, inner = unknowns_after(top, history)
        limits.append((inner, outer, bottom * high + more))
        limits.append((outer, inner, more - bottom * low))
    outer_many = len(outer_switches(top)) + 1
    many = outer_many + len(inner_switches(top)) + 1
    if rising:
        limits.extend([(place + 1, place, 0) for place in range(outer_many - 1)])
        limits.extend([(place, place + 1, 0) for place in range(outer_many, many - 1)])
    return Limits(many, limits)


def unknowns_after(top, history):
    """The two unknowns whose difference is the output after a right history."""
    outer, inner = place_of(top, memory_of(top, history))
    return outer, len(outer_switches(top)) + 1 + inner


def base_and_weights(top, unknowns):
    """The base, and a dict of the weights that are not 0, with which the unknowns are these."""
    outer = outer_switches(top)
    inner = inner_switches(top)
    left = unknowns[len(outer) + 1:]
    weighed = [
        *[(switch, unknowns[place + 1] - unknowns[place]) for place, switch in enumerate(outer)],
        *[(switch, left[place] - left[place + 1]) for place, switch in enumerate(inner)],
    ]
    return unknowns[0] - left[0], {switch: weight for switch, weight in weighed if weight != 0}


def numbers_of(records, indexes):
    """Numbers for records: how often the limits with these indexes are its lower one, less its upper one."""
    numbers = [0 for _ in records]
    for index in indexes:
        # There are two limits for each record, the upper one first; those of rising devices come last.
        if index < 2 * len(records):
            numbers[index // 2] += 1 if index % 2 == 1 else -1
    return numbers


def _is_wide(top, value):
    """Whether any value is a wide record."""
    if not isinstance(value, tuple) or len(value) != 3:
        return False
    history, low, high = value
    return are_levels(top, history) and are_bounds(low, high)
