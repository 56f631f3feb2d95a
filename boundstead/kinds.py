"""The kinds of plain values that arguments are made of."""

COORDINATE_LIMIT = 1000000
MOST_AXES = 4


def is_integer(value):
    """Whether value is an integer: an int, but neither True nor False."""
    return isinstance(value, int) and not isinstance(value, bool)


def is_sequence(value):
    """Whether value is a sequence: a list or a tuple, but no string."""
    return isinstance(value, (list, tuple))


def is_coordinate(value):
    """Whether value is an integer in the range of coordinates."""
    return is_integer(value) and -COORDINATE_LIMIT <= value <= COORDINATE_LIMIT
