"""What the tests of wide records share: their words, step by step, and records that are drawn."""

from by_words import all_switches, drawing, drawn_device, drawn_history, made_device, memories_by_words, on_after
from by_words import output_by_words, sums_by_words
from turnweights.errors import BadRecords
from wrong_values import NO_HISTORIES, NO_INTEGERS, NO_LISTS, ValuesCase, nested

SMALL_TOPS = (1, 2, 3, 4)
GREAT = 10 ** 999
# Records with a wide fit, but no rising one.
RECORDS = [([3, 1], 0, 1), ([4, 1, 2], 0, 1), ([3, 1, 2], 5, 6)]
# Records with the stretch 1/4; all four of them are needed for this.
TORN = [([3, 1], 0, 0), ([2], 0, 0), ([3, 1, 2], 0, 0), ([2, 1], 1, 1)]
# Records without a wide fit, all eight of which are needed for this.
EIGHT = [([4, 2], -1, -1), ([3, 1], 1, 1), ([4, 2, 3], 0, 0), ([3, 2], 0, 0), ([4, 1, 2], 1, 1), ([2, 1], 1, 1),
         ([4, 1, 3], 0, 0), ([2], 1, 1)]


def histories_of(records):
    return [history for history, _, _ in records]


def least_by_words(records, numbers):
    """Point 34: number times low for the numbers above 0, number times high for those below 0."""
    return (sum(number * low for number, (_, low, _) in zip(numbers, records) if number > 0)
            + sum(number * high for number, (_, _, high) in zip(numbers, records) if number < 0))


def greatest_by_words(records, numbers):
    """Point 34: high and low exchanged."""
    return (sum(number * high for number, (_, _, high) in zip(numbers, records) if number > 0)
            + sum(number * low for number, (_, low, _) in zip(numbers, records) if number < 0))


def have_sums_of_bars(top, records, numbers, rising):
    """Point 34: the sum is 0, and so are those over the switches; rising, these may be below 0."""
    total, *over = sums_by_words(top, histories_of(records), numbers)
    return total == 0 and all(each <= 0 if rising else each == 0 for each in over)


def are_wide_bars_by_words(top, records, numbers, rising):
    """Point 34, for as many integers as records."""
    return have_sums_of_bars(top, records, numbers, rising) and least_by_words(records, numbers) > 0


def keeps_by_words(device, records, rising):
    """Point 33."""
    if rising and min(device.weights().values(), default=0) < 0:
        return False
    return all(low <= output_by_words(device, history) <= high for history, low, high in records)


def output_of(top, base, weights, history):
    """The base and the weights of the switches that are on."""
    return base + sum(weights[switch] for switch in weights if switch in on_after(top, history))


def drawn_rising(draw, top, numbers=range(10000)):
    """A device without a weight below 0."""
    return made_device(top, draw.choice(numbers) - draw.choice(numbers), {
        switch: draw.choice(numbers) for switch in all_switches(top) if draw.randrange(4)})


def kept_records(draw, device, many, wide):
    """Records that a device keeps."""
    records = []
    for _ in range(many):
        history = drawn_history(draw, device.top, 5)
        output = output_by_words(device, history)
        records.append((history, output - draw.randint(0, wide), output + draw.randint(0, wide)))
    return records


def moved_record(draw, records, much):
    """The records with one bound moved."""
    records = list(records)
    index = draw.randrange(len(records))
    history, low, high = records[index]
    records[index] = draw.choice(((history, high + much, high + much), (history, low - much, low - much),
                                  (history, high, high + much), (history, low - much, low)))
    return records


def crossed_records(draw, top, much):
    """Records of two memories, their join and their meeting, with wrong sums if so much is not 0."""
    by_switches = {on_after(top, memory): memory for memory in memories_by_words(top)}
    records = []
    for _ in range(draw.randint(1, 3)):
        first, second = (draw.choice(list(by_switches)) for _ in range(2))
        low = draw.randint(-9, 9)
        for on, more in ((first, 0), (second, 0), (first | second, much), (first & second, draw.randint(-1, 1))):
            records.append((list(by_switches[on]), low + more - draw.randint(0, 1), low + more + draw.randint(0, 1)))
    draw.shuffle(records)
    return records


def drawn_records(draw, top, most=24):
    """Records of many kinds: kept by a device, nearly kept by one, or drawn at will."""
    many = draw.choice((0, 1, 2, 3, 5, 8, 12, 18, most))
    what = draw.randrange(6)
    small = draw.choice((range(-3, 4), range(-90, 91)))
    if what == 0:
        records = kept_records(draw, drawn_device(draw, top, small), many, draw.choice((0, 1, 9)))
    elif what == 1:
        records = kept_records(draw, drawn_rising(draw, top, range(9)), many, draw.choice((0, 1, 9)))
    elif what == 2:
        device = draw.choice((drawn_device(draw, top, small), drawn_rising(draw, top, range(9))))
        records = moved_record(draw, kept_records(draw, device, many + 1, draw.choice((0, 1))), draw.choice((1, 2, 40)))
    elif what == 3:
        records = crossed_records(draw, top, draw.choice((0, 1, 2, 7)))
    elif what == 4:
        records = []
        for _ in range(many):
            low = draw.randint(-4, 4)
            records.append((drawn_history(draw, top, 5), low, low + draw.randint(0, 8)))
    else:
        # Few enough for a fit, but with nothing else in common.
        records = []
        for _ in range(min(many, 2 * top)):
            low, high = sorted((draw.randint(-9999, 9999), draw.randint(-9999, 9999)))
            records.append((drawn_history(draw, top, 5), low, high))
    return [(history, max(low, -9999), min(high, 9999)) for history, low, high in records[:most]]


def all_drawn_records(seed, many):
    """Pairs of a top and drawn records."""
    draw = drawing(seed)
    for top in SMALL_TOPS:
        for _ in range(many):
            yield top, drawn_records(draw, top)


# Keys of dicts that are no switches for the tops 2 and 3.
NO_SWITCHES = ((4, 0), (4, 3), (0, 1), (1, 1), (2, -1), 2, "20", (2,), (2, 0, 0), (True, 0), (2, True), None, (2, (0,)))
# Values that are no wide record for the top 3.
NO_RECORDS = NO_LISTS + (
    [], [[], 0, 1], ([], 0), ([],), ([], 0, 1, 2), ([], 0, 1, None), ([], 1, 0), ([], 9999, -9999), ([], -10000, 0),
    ([], 0, 10000), ([], 10000, 10000), ([], -10000, -10000), ([], -GREAT, 5), ([], 5, GREAT), (0, [], 1), (0, 1, []),
    ([4], 0, 1), ([-1], 0, 1), ([1, True], 0, 1), ((1,), 0, 1), ("1", 0, 1), (None, 0, 1), nested(49),
    ([[1]], 0, 1)) + tuple(([1], value, 5) for value in NO_INTEGERS) + tuple(([1], -5, value) for value in NO_INTEGERS)


class WideCase(ValuesCase):
    def check_numbers(self, records, numbers):
        self.assertEqual((type(numbers), len(numbers)), (list, len(records)))
        self.assertLessEqual({type(number) for number in numbers}, {int})

    def check_records_errors(self, functions):
        """The functions, which take records for the top 3 alone, raise BadRecords for all that are none."""
        right = ([1], -9999, 9999)
        for function in functions:
            for value in NO_LISTS + ((right,), {0: right}):
                self.check_error(BadRecords, {"index": 0}, function, value)
            for value in NO_RECORDS:
                self.check_error(BadRecords, {"index": 0}, function, [value])
                self.check_error(BadRecords, {"index": 2}, function, [right, right, value, right, None])
                self.check_error(BadRecords, {"index": 24}, function, [right] * 24 + [value])
                self.check_error(BadRecords, {"index": 23}, function, [right] * 23 + [value] + [right] * 3)
            for value, _ in NO_HISTORIES:
                self.check_error(BadRecords, {"index": 1}, function, [right, (value, 0, 1)])
            for many in (25, 26, 100):
                self.check_error(BadRecords, {"index": 24}, function, [right] * many)
