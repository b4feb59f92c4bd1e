"""The errors of the package."""


class WeightError(ValueError):
    """The base class of all errors."""


class InvalidText(WeightError):
    """A text is not that of a device; row is the number of its first wrong row."""

    def __init__(self, row):
        self.row = row


class OtherTops(WeightError):
    """Two things that belong together have different tops."""


class BadLevels(WeightError):
    """A value is no list of levels; index is that of the first thing that is no level."""

    def __init__(self, index):
        self.index = index


class BadMemory(WeightError):
    """A value is no memory for the top."""


class BadCurves(WeightError):
    """A value is no curves."""


class BadRecords(WeightError):
    """A value is no records; index is that of the first thing that is no record."""

    def __init__(self, index):
        self.index = index


class NoFit(WeightError):
    """There is no fit."""


class BadMachine(WeightError):
    """A value is no states of a machine; number is that of the first wrong state."""

    def __init__(self, number):
        self.number = number


class NotALevel(WeightError):
    """After a history of the first device, its output, a number, is no level of the second one."""

    def __init__(self, history, number):
        self.history = history
        self.number = number


class BadView(WeightError):
    """A value is no view."""


class BadPlace(WeightError):
    """A value is no place, or not enough stands there."""


class BadSwitch(WeightError):
    """A value is no switch for the top."""


class BadWeight(WeightError):
    """A value is no weight, or no base."""


class UnknownMark(WeightError):
    """A number, which may be any value, is not that of a mark."""

    def __init__(self, number):
        self.number = number
