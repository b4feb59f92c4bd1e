"""Stretches: how far lows and highs must give way, so that there is a fit."""

from turnweights.bars import is_weighed
from turnweights.devices import Device
from turnweights.equations import lowest
from turnweights.outputs import output_after
from turnweights.wide import are_barring, base_and_weights, check_wide, is_rising, least_sum, limits_of, numbers_of


def stretch(top, records, rising):
    """The stretch, as a fraction; raises BadRecords(index)."""
    fraction, _ = _stretched(top, records, rising)
    return fraction


def stretched_fit(top, records, rising):
    """A stretched fit by the stretch; raises BadRecords(index)."""
    fraction, _ = _stretched(top, records, rising)
    base, weights = base_and_weights(top, limits_of(top, records, rising, fraction).keeping())
    return fraction[1], base, weights


def stretch_numbers(top, records, rising):
    """Stretch numbers, or None if the stretch is 0; raises BadRecords(index)."""
    _, numbers = _stretched(top, records, rising)
    return numbers


def is_stretched_fit(top, records, fraction, fit, rising):
    """Whether any value is a stretched fit by a fraction; raises BadRecords(index)."""
    check_wide(top, records)
    if not is_weighed(top, fit):
        return False
    bottom, base, weights = fit
    if rising and not is_rising(weights):
        return False
    device = Device(top, base, weights)
    return all([
        _is_kept(low, high, fraction, bottom, output_after(device, history)) for history, low, high in records
    ])


def are_stretch_numbers(top, records, fraction, numbers, rising):
    """Whether any value is numbers that show that no smaller fraction has a stretched fit; raises BadRecords(index)."""
    check_wide(top, records)
    if fraction[0] <= 0 or not are_barring(top, records, numbers, rising) or not any(numbers):
        return False
    return fraction[1] * least_sum(records, numbers) == fraction[0] * _size(numbers)


def _stretched(top, records, rising):
    """The stretch, and stretch numbers or None; raises BadRecords(index)."""
    check_wide(top, records)
    fraction = (0, 1)
    numbers = None
    indexes = limits_of(top, records, rising, fraction).round_below()
    while indexes is not None:
        # These numbers show that all smaller fractions have no stretched fit; so had this one.
        numbers = numbers_of(records, indexes)
        bottom, tops = lowest(_size(numbers), [least_sum(records, numbers)])
        fraction = (tops[0], bottom)
        indexes = limits_of(top, records, rising, fraction).round_below()
    return fraction, numbers


def _is_kept(low, high, fraction, bottom, output):
    """Whether an output that is a bottom times as great is kept by a low and a high, stretched by a fraction."""
    more, share = fraction
    return bottom * (share * low - more) <= share * output <= bottom * (share * high + more)


def _size(numbers):
    """The sum of the absolute values of numbers."""
    return sum([abs(number) for number in numbers])
