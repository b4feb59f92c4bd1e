"""Limits of the differences of unknown integers, and what follows from them."""


class Limits:
    """So many unknowns, and limits (first, second, most): the second one is at most so much more than the first one."""

    def __init__(self, many, limits):
        self._many = many
        self._limits = limits

    def keeping(self):
        """A list of integers for the unknowns that keep all limits, or None."""
        heights, _, unsettled = self._lowered([0 for _ in range(self._many)])
        return heights if unsettled is None else None

    def round_below(self):
        """The indexes of limits that lead from an unknown back to it, and together are below 0, or None.

        No unknown is met twice. There are such limits just if no integers keep all of them.
        """
        _, lasts, place = self._lowered([0 for _ in range(self._many)])
        if place is None:
            return None
        # An unknown that is lowered last was lowered by way of a round; so far back is on it.
        for _ in range(self._many):
            place = self._limits[lasts[place]][0]
        return self._led(lasts, place, place)

    def way(self, first, second):
        """The indexes of limits that lead from one unknown to another one, and together are the least, or None.

        Some integers keep all limits. The second one can be just as much more than the first one as these limits say.
        """
        heights, lasts, _ = self._lowered_from(first)
        return None if heights[second] is None else self._led(lasts, first, second)

    def reached(self, first):
        """For each unknown, whether limits lead to it from one of them."""
        heights = self._lowered_from(first)[0]
        return [height is not None for height in heights]

    def _lowered_from(self, first):
        """What is lowered by way of one unknown, which is 0."""
        return self._lowered([0 if place == first else None for place in range(self._many)])

    def _lowered(self, heights):
        """Heights, lowered until they keep the limits, but no oftener than there are unknowns; None is above integers.

        Besides, for each unknown the index of the limit that lowered it last; and an unknown that was still lowered at
        last, or None.
        """
        heights = list(heights)
        lasts = [None for _ in heights]
        unsettled = None
        for _ in range(self._many):
            unsettled = None
            for index, (first, second, most) in enumerate(self._limits):
                if heights[first] is not None and _is_above(heights[second], heights[first] + most):
                    heights[second] = heights[first] + most
                    lasts[second] = index
                    unsettled = second
            if unsettled is None:
                break
        return heights, lasts, unsettled

    def _led(self, lasts, first, second):
        """The indexes of the limits that lowered the second unknown by way of the first one; at least one."""
        indexes = [lasts[second]]
        place = self._limits[lasts[second]][0]
        while place != first:
            indexes.append(lasts[place])
            place = self._limits[lasts[place]][0]
        return indexes


def _is_above(height, other):
    """Whether a height is above another one, which is an integer."""
    return height is None or height > other
