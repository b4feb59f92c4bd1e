"""Measures: the weights that fit them, what shows that none do, and which outputs they settle."""

from turnweights.bars import check_records, shares_with, sum_with_outputs
from turnweights.devices import Device
from turnweights.equations import Equations, lowest
from turnweights.errors import NoFit
from turnweights.memories import check_levels, memory_of, switches


class Weighing:
    """What right measures tell of a base and weights. against is bars for them, or None."""

    def __init__(self, top, measures):
        self.against = None
        self._top = top
        self._measures = measures
        self._equations = Equations(len(shares_with(top, ())))
        # The indexes of the measures from which the equations are.
        self._indexes = []
        weighed = set()
        for index, (history, output) in enumerate(measures):
            memory = memory_of(top, history)
            if self.against is None and (memory, output) not in weighed:
                weighed.add((memory, output))
                self._weigh(index, shares_with(top, memory))

    def fit(self):
        """A fit of measures without bars."""
        bottom, numbers = self._solution()
        return self._fit_of(bottom, numbers)

    def fits_that_part(self, history):
        """Two fits of measures without bars with which the outputs after a history differ, or None."""
        free = self._equations.first_free(self._shares_after(history))
        if free is None:
            return None
        bottom, numbers = self._solution()
        more = numbers + [0 for _ in range(len(numbers), free)] + [bottom]
        return self._fit_of(bottom, numbers), self._fit_of(bottom, more)

    def settling(self, history):
        """A pair (bottom, numbers) that shows that the output after a history is settled, or None."""
        shares = self._shares_after(history)
        if self._equations.first_free(shares) is not None:
            return None
        bottom, numbers = self._equations.made(shares)
        return bottom, self._spread(numbers)

    def divided_bars(self):
        """Divided bars for measures without bars, or None."""
        bottom, numbers = self._solution()
        for place, number in enumerate(numbers):
            if number % bottom != 0:
                # The equations settle this unknown, a sum of integers with integer weights, as a fraction.
                divisor, parts = self._equations.making(place)
                return divisor, self._spread(parts)
        return None

    def _weigh(self, index, shares):
        """Puts in the equation from a measure; finds bars if the others say otherwise."""
        if self._equations.put(shares):
            self._indexes.append(index)
            return
        bottom, numbers = self._equations.made(shares)
        spread = self._spread(numbers)
        spread[index] = -bottom
        if sum_with_outputs(self._measures, spread) != 0:
            self.against = spread

    def _solution(self):
        """The least bottom and the numbers of the new unknowns of the equations, times the bottom."""
        return self._equations.solution([self._measures[index][1] for index in self._indexes])

    def _fit_of(self, bottom, numbers):
        """The fit with a bottom and numbers of the new unknowns."""
        base, *weights = self._equations.old_unknowns(numbers)
        named = {switch: weight for switch, weight in zip(switches(self._top), weights) if weight != 0}
        return bottom, base, named

    def _shares_after(self, history):
        """How often the base and the weights are in the output after a right history."""
        return shares_with(self._top, memory_of(self._top, history))

    def _spread(self, numbers):
        """One number for each measure: these ones for those from which the equations are, 0 for the others."""
        spread = [0 for _ in self._measures]
        for index, number in zip(self._indexes, numbers):
            spread[index] = number
        return spread


def fit(top, measures):
    """A fit of measures, or None; raises BadRecords(index)."""
    weighing = _weighed(top, measures)
    return weighing.fit() if weighing.against is None else None


def bars(top, measures):
    """Bars for measures, or None; raises BadRecords(index)."""
    return _weighed(top, measures).against


def whole_fit(top, measures):
    """A device with the outputs of measures, or None; raises BadRecords(index)."""
    found = fit(top, measures)
    if found is None:
        return None
    bottom, base, weights = found
    # The bottom is the least one: no fit has a smaller one.
    return Device(top, base, weights) if bottom == 1 else None


def divided_bars(top, measures):
    """Divided bars for measures, or None if there are none, or if there are bars; raises BadRecords(index)."""
    weighing = _weighed(top, measures)
    return weighing.divided_bars() if weighing.against is None else None


def settled(top, measures, history):
    """The output after a history that measures settle, as a fraction, or None.

    Raises BadRecords(index), BadLevels(index), then NoFit(); so do the next two.
    """
    found = settling(top, measures, history)
    if found is None:
        return None
    bottom, totals = lowest(found[0], [sum_with_outputs(measures, found[1])])
    return totals[0], bottom


def settling(top, measures, history):
    """A pair (bottom, numbers) that shows that the output after a history is settled, or None."""
    return _fitted(top, measures, history).settling(history)


def unsettled(top, measures, history):
    """A pair of fits with which the outputs after a history differ, or None."""
    return _fitted(top, measures, history).fits_that_part(history)


def _weighed(top, measures):
    """What measures tell; raises BadRecords(index)."""
    check_records(top, measures)
    return Weighing(top, measures)


def _fitted(top, measures, history):
    """What measures with a fit tell; raises BadRecords(index), BadLevels(index) for a history, then NoFit()."""
    check_records(top, measures)
    check_levels(top, history)
    weighing = Weighing(top, measures)
    if weighing.against is not None:
        raise NoFit()
    return weighing
