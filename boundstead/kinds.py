"""The kinds of plain values that arguments are made of."""

COORDINATE_LIMIT = 1000000
SPEED_LIMIT = 100
LAST_TIME = 1000
GREATEST_KEY = 1000000000
MOST_AXES = 4
MOST_ITEMS = 200
LAST_PAGE = 999


def is_integer(value):
    """Whether value is an integer: an int, but neither True nor False."""
    return isinstance(value, int) and not isinstance(value, bool)


def is_sequence(value):
    """Whether value is a sequence: a list or a tuple, but no string."""
    return isinstance(value, (list, tuple))


def is_within(value, least, most):
    """Whether value is an integer from least to most."""
    return is_integer(value) and least <= value <= most


def is_coordinate(value):
    """Whether value is an integer in the range of coordinates."""
    return is_within(value, -COORDINATE_LIMIT, COORDINATE_LIMIT)


def is_key(value):
    """Whether value is an integer in the range of keys."""
    return is_within(value, 0, GREATEST_KEY)


def is_time(value):
    """Whether value is an integer in the range of times."""
    return is_within(value, 0, LAST_TIME)


def is_span(start, end):
    """Whether start and end are times, the end not before the start."""
    return is_time(start) and is_time(end) and start <= end


def is_axes(value):
    """Whether value is a possible number of axes."""
    return is_within(value, 1, MOST_AXES)


def is_most(value):
    """Whether value may be the greatest number of entries of a page."""
    return is_within(value, 6, 12)


def is_page_number(value):
    """Whether value is an integer in the range of page numbers."""
    return is_within(value, 0, LAST_PAGE)


def is_speed(value):
    """Whether value is a speed: a sequence of integers in the range of speeds, one for each axis."""
    return is_sequence(value) and all([is_within(rate, -SPEED_LIMIT, SPEED_LIMIT) for rate in value])
