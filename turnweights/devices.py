"""Devices: their texts, sums and multiples."""

from turnweights.errors import InvalidText, OtherTops

_GREATEST_TOP = 6
_MOST_FIGURES = 4


class Device:
    """A top, a base and weights of some switches. It never changes."""

    def __init__(self, top, base, weights):
        self.top = top
        self.base = base
        self._weights = {switch: weights[switch] for switch in sorted(weights) if weights[switch] != 0}

    @staticmethod
    def parse(text):
        """The device with a text; raises InvalidText(row)."""
        if not isinstance(text, str):
            raise InvalidText(0)
        rows = [_read_row(row) for row in text.split("\n")]
        if not _is_head(rows[0]):
            raise InvalidText(0)
        top, base = rows[0]
        weights = {}
        before = (0, 0)
        for number in range(1, len(rows)):
            if not _is_weight(top, before, rows[number]):
                raise InvalidText(number)
            up, down, weight = rows[number]
            before = (up, down)
            weights[before] = weight
        return Device(top, base, weights)

    def weights(self):
        """A new dict from the switches with weights to these, in ascending order."""
        return {switch: self._weights[switch] for switch in self._weights}

    def __str__(self):
        return "\n".join([
            f"{self.top} {self.base}",
            *[f"{up} {down} {self._weights[up, down]}" for up, down in self._weights],
        ])

    def __eq__(self, other):
        # Numbers instead of texts: Python refuses to write integers of some thousand figures.
        return (
            isinstance(other, Device)
            and self.top == other.top
            and self.base == other.base
            and self._weights == other._weights
        )


def added(first, second):
    """The sum of two devices; raises OtherTops()."""
    if first.top != second.top:
        raise OtherTops()
    weights = first.weights()
    more = second.weights()
    for switch in more:
        weights[switch] = weights.get(switch, 0) + more[switch]
    return Device(first.top, first.base + second.base, weights)


def multiplied(device, number):
    """The multiple of a device by an integer."""
    weights = device.weights()
    return Device(device.top, device.base * number, {switch: weights[switch] * number for switch in weights})


def _read_row(row):
    """The numbers that the words of a row tell; None stands for a word that tells none."""
    return [_read_number(word) for word in row.split(" ")]


def _read_number(word):
    """The integer from -9999 to 9999 that a word tells; None if it tells none."""
    figures = word[1:] if word.startswith("-") else word
    # Python's int also reads figures of other scripts, and fails for some thousand of them.
    if not figures.isascii() or not figures.isdigit() or len(figures) > _MOST_FIGURES:
        return None
    number = int(word)
    # Leading zeros and "-0" are not how the number is written.
    return number if str(number) == word else None


def _is_head(numbers):
    """Whether these are the numbers of a right first row."""
    return len(numbers) == 2 and None not in numbers and 1 <= numbers[0] <= _GREATEST_TOP


def _is_weight(top, before, numbers):
    """Whether these are the numbers of a right row for a weight, behind that of another switch."""
    if len(numbers) != 3 or None in numbers:
        return False
    up, down, weight = numbers
    return 0 <= down < up <= top and before < (up, down) and weight != 0
