"""The errors: their classes, arguments and attributes."""

import unittest

from turnweights import errors

NAMES = {
    "InvalidText": ("row",),
    "OtherTops": (),
    "BadLevels": ("index",),
    "BadMemory": (),
    "BadCurves": (),
    "BadRecords": ("index",),
    "NoFit": (),
    "BadMachine": ("number",),
    "NotALevel": ("history", "number"),
    "BadView": (),
    "BadPlace": (),
    "BadSwitch": (),
    "BadWeight": (),
    "UnknownMark": ("number",),
}
VALUES = (0, 7, -1, 10 ** 5000, None, True, "", "3", (), (1, 0), [], [2, [None, {}]], {}, {(1, 0): [1]})


class ErrorsTest(unittest.TestCase):
    def test_base_class(self):
        self.assertEqual(errors.WeightError.__bases__, (ValueError,))
        self.assertEqual(errors.WeightError.__module__, "turnweights.errors")

    def test_direct_subclasses(self):
        for name in NAMES:
            with self.subTest(name=name):
                self.assertEqual(getattr(errors, name).__bases__, (errors.WeightError,))
                self.assertEqual(getattr(errors, name).__module__, "turnweights.errors")

    def test_there_are_no_others(self):
        self.assertEqual({error.__name__ for error in errors.WeightError.__subclasses__()}, set(NAMES))

    def test_attributes_by_position(self):
        for name, attributes in NAMES.items():
            for value in VALUES:
                with self.subTest(name=name, attributes=attributes):
                    values = [value, [value]][:len(attributes)]
                    error = getattr(errors, name)(*values)
                    self.assertEqual([getattr(error, attribute) for attribute in attributes], values)

    def test_attributes_by_name(self):
        for name, attributes in NAMES.items():
            for value in VALUES:
                with self.subTest(name=name, attributes=attributes):
                    values = dict(zip(attributes, [value, [value]]))
                    error = getattr(errors, name)(**values)
                    self.assertEqual({attribute: getattr(error, attribute) for attribute in attributes}, values)

    def test_raised_and_caught(self):
        for name, attributes in NAMES.items():
            for caught in (getattr(errors, name), errors.WeightError, ValueError):
                with self.subTest(name=name, caught=caught), self.assertRaises(caught):
                    raise getattr(errors, name)(*attributes)


if __name__ == "__main__":
    unittest.main()
