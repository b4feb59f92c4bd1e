"""What any value is."""

_GREATEST = 9999


def is_integer(value):
    """Whether any value is an integer; True and False are none."""
    return isinstance(value, int) and not isinstance(value, bool)


def are_integers(value, many):
    """Whether any value is a list of so many integers."""
    return isinstance(value, list) and len(value) == many and all([is_integer(entry) for entry in value])


def is_small_integer(value):
    """Whether any value is an integer from -9999 to 9999."""
    return is_integer(value) and -_GREATEST <= value <= _GREATEST
