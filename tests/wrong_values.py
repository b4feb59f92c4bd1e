"""Values that are not what the document asks for, and what the tests do with them."""

import copy
import unittest

from by_words import OTHER_VALUES
from turnweights.errors import WeightError

NO_LISTS = OTHER_VALUES + ((), (1,), "", "1", "12")
# Pairs of a value and the index of the first thing that is no level for the top 3.
NO_HISTORIES = tuple((value, 0) for value in NO_LISTS) + (
    ([4], 0), ([-1], 0), ([True], 0), ([False], 0), ([None], 0), (["1"], 0), ([[]], 0), ([()], 0), ([{}], 0),
    ([[1, 2]], 0), ([(1,)], 0), ([10 ** 999], 0), ([-10 ** 999], 0), ([0, 4], 1), ([0, 1, 2, 3, 4], 4),
    ([3, 3, -1, 3], 2), ([1, True], 1), ([1, False, 4], 1), ([1, 4, False], 1), ([0, 0, None, None], 2),
    ([1, 2, [3]], 2), ([1, "2", 3], 1), ([2, {"level": 2}], 1), ([1, [[[[[]]]]]], 1), ([0] * 500 + [4], 500))
# Values that are no memories for the top 3.
NO_MEMORIES = OTHER_VALUES + (
    [], [1], [3, 1], "", "1", "31", (0,), (4,), (-1,), (3, 0), (3, 1, 0), (1, 2), (1, 3), (1, 1), (3, 3), (3, 2, 1),
    (2, 3, 1), (2, 1, 3), (3, 1, 1), (3, 1, 3), (3, 1, 2, 1), (3, 1, 2, 2), (3, 1, 2, 0), (3, 1, 2, 4), (4, 1),
    (True,), (False,), (3, True), (3, True, 2), (2, 1, True), (None,), ("1",), (3, "1"), ((),), ((1,),), ([],), ([1],),
    (3, [1]), ({},), (3, (1, 2)), ((3, 1), 2), (10 ** 999,), (3, 1, (2,)), ((((((1,),),),),),), (0,) * 500)
# Values that are no integers.
NO_INTEGERS = (None, True, False, "", "1", (), (1,), [], [1], {}, {1: 1}, [[]], ((),))


def nested(many):
    """A list nested so many levels deep."""
    value = []
    for _ in range(many - 1):
        value = [value]
    return value


class ValuesCase(unittest.TestCase):
    def check_error(self, error, told, function, *values):
        """The function raises this error with what it tells, and leaves the values as they were."""
        kept = copy.deepcopy(values)
        with self.subTest(function=repr(function)[:60], values=repr(values)[:90]):
            with self.assertRaises(error) as caught:
                function(*values)
            self.assertIs(type(caught.exception), error)
            self.assertEqual(repr(vars(caught.exception)), repr(told))
            self.assertIsInstance(caught.exception, WeightError)
            self.assertIsInstance(caught.exception, ValueError)
        self.assertEqual(repr(values), repr(kept))

    def check_told(self, expected, function, *values):
        """The function tells just this, and leaves the values as they were."""
        kept = copy.deepcopy(values)
        with self.subTest(function=repr(function)[:60], values=repr(values)[:90]):
            self.assertEqual(repr(function(*values)), repr(expected))
        self.assertEqual(repr(values), repr(kept))
