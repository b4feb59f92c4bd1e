"""Records, the bars that show that no device has their outputs, and the fits that show what has."""

from turnweights.devices import Device
from turnweights.errors import BadRecords
from turnweights.memories import are_levels, is_switch, memory_of, switches, switches_on
from turnweights.outputs import output_after
from turnweights.values import are_integers, is_integer


def are_bars(top, records, numbers):
    """Whether any value is bars for records; raises BadRecords(index)."""
    check_records(top, records)
    if not are_integers(numbers, len(records)):
        return False
    return not any(_sums_of(top, records, numbers)) and sum_with_outputs(records, numbers) != 0


def are_divided(top, records, pair):
    """Whether any value is divided bars for records; raises BadRecords(index)."""
    check_records(top, records)
    if not isinstance(pair, tuple) or len(pair) != 2:
        return False
    number, numbers = pair
    if not is_integer(number) or number < 2 or not are_integers(numbers, len(records)):
        return False
    are_multiples = not any([total % number for total in _sums_of(top, records, numbers)])
    return are_multiples and sum_with_outputs(records, numbers) % number != 0


def is_fit(top, records, fit):
    """Whether any value is a fit of records; raises BadRecords(index)."""
    check_records(top, records)
    if not is_weighed(top, fit):
        return False
    bottom, base, weights = fit
    device = Device(top, base, weights)
    return all([output_after(device, history) == bottom * output for history, output in records])


def check_records(top, records):
    """Raises BadRecords(index) if any value is no records."""
    if not isinstance(records, list):
        raise BadRecords(0)
    for index, record in enumerate(records):
        if not _is_record(top, record):
            raise BadRecords(index)


def is_weighed(top, value):
    """Whether any value is a tuple of a bottom from 1 on, a base and weights."""
    if not isinstance(value, tuple) or len(value) != 3:
        return False
    bottom, base, weights = value
    return is_integer(bottom) and bottom >= 1 and is_integer(base) and are_weights(top, weights)


def are_weights(top, value):
    """Whether any value is a dict from switches to integers that are not 0."""
    if not isinstance(value, dict):
        return False
    return all([is_switch(top, key) and is_integer(value[key]) and value[key] != 0 for key in value])


def shares_with(top, memory):
    """How often the base and each weight, the switches in ascending order, are in the output with a memory."""
    on = switches_on(top, memory)
    return [1] + [1 if switch in on else 0 for switch in switches(top)]


def sum_with_outputs(records, numbers):
    """The sum of the numbers, one for each record, each times its output."""
    return sum([number * output for number, (_, output) in zip(numbers, records)])


def totals_with(top, histories, numbers):
    """A dict from the memories of right histories to the sums of their numbers, one for each history."""
    totals = {}
    for history, number in zip(histories, numbers):
        memory = memory_of(top, history)
        totals[memory] = totals.get(memory, 0) + number
    return totals


def sums_over(top, histories, numbers):
    """The sum of the numbers, one for each right history, and for each switch that of those after which it is on.

    The switches are in ascending order.
    """
    totals = totals_with(top, histories, numbers)
    sums = [0] + [0 for _ in switches(top)]
    for memory in totals:
        sums = [so_far + totals[memory] * share for so_far, share in zip(sums, shares_with(top, memory))]
    return sums


def _is_record(top, value):
    """Whether any value is a pair of a history and an integer."""
    if not isinstance(value, tuple) or len(value) != 2:
        return False
    history, output = value
    return are_levels(top, history) and is_integer(output)


def _sums_of(top, records, numbers):
    """The sum of the numbers of records, and for each switch the sum of those after whose histories it is on."""
    return sums_over(top, [history for history, _ in records], numbers)
