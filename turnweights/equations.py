"""Equations with integer coefficients, solved without fractions."""

from math import gcd


class Equations:
    """Equations, none of which follows from the others, for unknowns that are sums of new unknowns.

    The new unknowns are such that integers for them are just as good as integers for the old ones, and that each
    equation has one new unknown more than those before it.
    """

    def __init__(self, many):
        # For each new unknown, how often it is in each of the old ones.
        self._unknowns = [[1 if at == place else 0 for at in range(many)] for place in range(many)]
        # For each equation, the coefficients of its new unknowns; the last one is above 0.
        self._rows = []

    def put(self, row):
        """Puts in an equation with these coefficients of the old unknowns, if it does not follow from the others.

        Returns whether it was put in.
        """
        coefficients = self._changed(row)
        place = len(self._rows)
        if not any(coefficients[place:]):
            return False
        for other in range(place + 1, len(coefficients)):
            self._free(coefficients, place, other)
        if coefficients[place] < 0:
            self._unknowns[place] = [-count for count in self._unknowns[place]]
            coefficients[place] = -coefficients[place]
        self._rows.append(coefficients[:place + 1])
        return True

    def first_free(self, row):
        """The number of the first new unknown in a row that is in none of the equations; None if there is none."""
        coefficients = self._changed(row)
        for place in range(len(self._rows), len(coefficients)):
            if coefficients[place] != 0:
                return place
        return None

    def solution(self, values):
        """The least bottom and the numbers of the new unknowns, times the bottom, with which the equations hold."""
        bottom = 1
        numbers = []
        for row, value in zip(self._rows, values):
            rest = bottom * value - times(row, numbers)
            bottom, numbers = lowest(bottom * row[-1], [row[-1] * number for number in numbers] + [rest])
        return bottom, numbers

    def old_unknowns(self, numbers):
        """The numbers of the old unknowns for those of the first new ones, the others being 0."""
        totals = [0 for _ in self._unknowns]
        for number, unknown in zip(numbers, self._unknowns):
            totals = [total + number * count for total, count in zip(totals, unknown)]
        return totals

    def made(self, row):
        """A bottom and numbers of the equations, such that their sum is the bottom times a row that follows."""
        return self._made_of_new(self._changed(row))

    def making(self, place):
        """The same for the row of one new unknown."""
        return self._made_of_new([1 if at == place else 0 for at in range(len(self._unknowns))])

    def _made_of_new(self, coefficients):
        """The same for a row of coefficients of the new unknowns."""
        left = coefficients[:len(self._rows)]
        bottom = 1
        numbers = []
        for row in reversed(self._rows):
            scale = row[-1] // gcd(row[-1], left[-1])
            number = scale * left[-1] // row[-1]
            left = [scale * coefficient - number * other for coefficient, other in zip(left, row)][:-1]
            bottom = bottom * scale
            numbers = [number] + [scale * other for other in numbers]
        return lowest(bottom, numbers)

    def _changed(self, row):
        """The coefficients of the new unknowns in a row."""
        return [times(row, unknown) for unknown in self._unknowns]

    def _free(self, coefficients, place, other):
        """Changes two new unknowns and their coefficients in a row, until that of the other one is 0."""
        kept = self._unknowns[place]
        gone = self._unknowns[other]
        while coefficients[other] != 0:
            count = coefficients[place] // coefficients[other]
            left = coefficients[place] - count * coefficients[other]
            coefficients[place] = coefficients[other]
            coefficients[other] = left
            kept, gone = gone, [first - count * second for first, second in zip(kept, gone)]
        self._unknowns[place] = kept
        self._unknowns[other] = gone


def times(first, second):
    """The sum of the products of the numbers of two lists, as far as both go."""
    return sum([one * other for one, other in zip(first, second)])


def lowest(bottom, numbers):
    """A bottom from 1 on and numbers, divided by what divides all of them."""
    divisor = bottom
    for number in numbers:
        divisor = gcd(divisor, number)
    return bottom // divisor, [number // divisor for number in numbers]
