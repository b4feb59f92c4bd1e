"""Ranges: how little and how much an output can be that wide records leave open."""

from turnweights.bars import are_weights, shares_with, sums_over
from turnweights.devices import Device
from turnweights.errors import NoFit
from turnweights.memories import check_levels, memory_of
from turnweights.outputs import output_after
from turnweights.values import are_integers, is_integer
from turnweights.wide import base_and_weights, check_wide, device_keeping, greatest_sum, is_rising, least_sum
from turnweights.wide import limits_of, numbers_of, unknowns_after


class Ranging:
    """What right wide records tell of the outputs after further histories; raises NoFit().

    The histories are right. A side is 0 for the least side, 1 for the greatest one.
    """

    def __init__(self, top, records, rising):
        self._top = top
        self._records = records
        self._rising = rising
        self._limits = limits_of(top, records, rising, (0, 1))
        if self._limits.keeping() is None:
            raise NoFit()

    def span(self, history):
        """The range."""
        return self.end(history, 0), self.end(history, 1)

    def end(self, history, side):
        """The output at a side, or None."""
        numbers = self.numbers(history, side)
        return None if numbers is None else _sum_at(self._records, numbers, side)

    def numbers(self, history, side):
        """End numbers for a side, or None."""
        first, second = self._way(history, side)
        indexes = self._limits.way(first, second)
        if indexes is None:
            return None
        numbers = numbers_of(self._records, indexes)
        return [-number for number in numbers] if side == 1 else numbers

    def device(self, history, side):
        """A fit with the output at a side, or None."""
        output = self.end(history, side)
        if output is None:
            return None
        return device_keeping(self._top, [*self._records, (history, output, output)], self._rising)

    def direction(self, history, side):
        """A direction for a side, or None."""
        first, second = self._way(history, side)
        reached = self._limits.reached(first)
        if reached[second]:
            return None
        # No limit leads from what is reached to what is not: this can be any integer more.
        return base_and_weights(self._top, [0 if is_reached else 1 for is_reached in reached])

    def _way(self, history, side):
        """The unknown that is taken away at a side, and the other one."""
        outer, inner = unknowns_after(self._top, history)
        return (inner, outer) if side == 1 else (outer, inner)


def span(top, records, history, rising):
    """The range of a further history; raises BadRecords(index), BadLevels(index), then NoFit(); so do all below."""
    return _ranging(top, records, history, rising).span(history)


def end_device(top, records, history, side, rising):
    """A wide fit, or a rising fit, with the output at a side, or None if it is open."""
    return _ranging(top, records, history, rising).device(history, side)


def end_numbers(top, records, history, side, rising):
    """End numbers for a side, or None if it is open."""
    return _ranging(top, records, history, rising).numbers(history, side)


def direction(top, records, history, side, rising):
    """A direction for a side, or None if it is not open."""
    return _ranging(top, records, history, rising).direction(history, side)


def are_end_numbers(top, records, history, side, numbers, rising):
    """Whether any value is end numbers for a side, with the output at it."""
    output = _ranging(top, records, history, rising).end(history, side)
    if output is None or not are_integers(numbers, len(records)):
        return False
    sums = sums_over(top, [record[0] for record in records], numbers)
    # By how much the sums are more than those of the output after the further history.
    total, *over = [told - share for told, share in zip(sums, shares_with(top, memory_of(top, history)))]
    if rising:
        are_right = min(over) >= 0 if side == 1 else max(over) <= 0
    else:
        are_right = not any(over)
    return total == 0 and are_right and _sum_at(records, numbers, side) == output


def is_direction(top, records, history, side, value, rising):
    """Whether any value is a direction for a side."""
    _ranging(top, records, history, rising)
    if not isinstance(value, tuple) or len(value) != 2:
        return False
    base, weights = value
    if not is_integer(base) or not are_weights(top, weights):
        return False
    device = Device(top, base, weights)
    if rising and not is_rising(weights) or any([output_after(device, record[0]) for record in records]):
        return False
    output = output_after(device, history)
    return output > 0 if side == 1 else output < 0


def _ranging(top, records, history, rising):
    """What records tell; raises BadRecords(index), BadLevels(index) for a history, then NoFit()."""
    check_wide(top, records)
    check_levels(top, history)
    return Ranging(top, records, rising)


def _sum_at(records, numbers, side):
    """The least sum of numbers for the least side, the greatest one for the greatest side."""
    return greatest_sum(records, numbers) if side == 1 else least_sum(records, numbers)
