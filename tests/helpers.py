"""What several test files need: other shapes of a value, and counts of points."""

import itertools


def as_lists(value):
    """The value with a list in the place of every tuple."""
    if isinstance(value, (list, tuple)):
        return [as_lists(part) for part in value]
    return value


def as_tuples(value):
    """The value with a tuple in the place of every list."""
    if isinstance(value, (list, tuple)):
        return tuple(as_tuples(part) for part in value)
    return value


def mixed(value, depth=0):
    """The value with lists at the even levels and tuples at the odd ones."""
    if isinstance(value, (list, tuple)):
        parts = [mixed(part, depth + 1) for part in value]
        return tuple(parts) if depth % 2 else parts
    return value


def is_plain(value):
    """Whether value is built of plain tuples, ints, strings, True, False and None alone."""
    if type(value) is tuple:
        return all(is_plain(part) for part in value)
    return value is None or type(value) in (int, str, bool)


def points_of(box):
    """The set of all points of a small box."""
    return set(itertools.product(*[range(low, high + 1) for low, high in box]))


def random_box(rng, axes, low, high):
    """A box within (low, high) on each axis."""
    return tuple(tuple(sorted((rng.randint(low, high), rng.randint(low, high)))) for _ in range(axes))
