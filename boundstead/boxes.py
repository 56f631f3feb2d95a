"""Boxes with integer coordinates: tests, measures and differences."""

from boundstead.kinds import MOST_AXES, is_coordinate, is_sequence


def is_pair(value):
    """Whether value is a pair (low, high) of coordinates with low <= high."""
    if not is_sequence(value) or len(value) != 2:
        return False
    low, high = value
    return is_coordinate(low) and is_coordinate(high) and low <= high


def is_box(value):
    """Whether value is a box: one pair of coordinates for each of one to four axes."""
    if not is_sequence(value) or not 1 <= len(value) <= MOST_AXES:
        return False
    return all([is_pair(pair) for pair in value])


def meets(one, other):
    """Whether the boxes have a point in common."""
    return all([low <= far_high and far_low <= high for (low, high), (far_low, far_high) in zip(one, other)])


def inside(one, other):
    """Whether every point of one is a point of other."""
    return all([far_low <= low and high <= far_high for (low, high), (far_low, far_high) in zip(one, other)])


def hull_of(boxes):
    """The smallest box that contains all the boxes, of which there is at least one."""
    hull = []
    for axis in range(len(boxes[0])):
        low = min([box[axis][0] for box in boxes])
        high = max([box[axis][1] for box in boxes])
        hull.append((low, high))
    return tuple(hull)


def common_box(one, other):
    """The box of the points that both boxes have, or None."""
    if not meets(one, other):
        return None
    pairs = []
    for (low, high), (far_low, far_high) in zip(one, other):
        pairs.append((max(low, far_low), min(high, far_high)))
    return tuple(pairs)


def points_in(box):
    """The number of points of the box."""
    many = 1
    for low, high in box:
        many = many * (high - low + 1)
    return many


def gap_between(one, other):
    """The square of the distance of the boxes."""
    gap = 0
    for (low, high), (far_low, far_high) in zip(one, other):
        apart = max(0, far_low - high, low - far_high)
        gap = gap + apart * apart
    return gap


def with_pair(box, axis, low, high):
    """The box with another pair on one axis, as a plain tuple."""
    return (*box[:axis], (low, high), *box[axis + 1:])


def without(box, hole):
    """Boxes of the points of box outside of hole, no two with a common point."""
    if not meets(box, hole):
        return [box]
    parts = []
    rest = box
    for axis, (hole_low, hole_high) in enumerate(hole):
        low, high = rest[axis]
        if low < hole_low:
            parts.append(with_pair(rest, axis, low, hole_low - 1))
        if hole_high < high:
            parts.append(with_pair(rest, axis, hole_high + 1, high))
        rest = with_pair(rest, axis, max(low, hole_low), min(high, hole_high))
    return parts


def pieces(box, holes):
    """Boxes without a common point, whose points are those of box in none of the holes."""
    # Each part is bounded by sides of box and holes alone, so it is made of whole
    # cells of the grid of these sides, which has at most (2 * h + 1) ** axes cells.
    parts = [tuple([(low, high) for low, high in box])]
    for hole in holes:
        parts = [part for old in parts for part in without(old, hole)]
    return tuple(parts)


def covered(boxes):
    """The number of points that lie in at least one of the boxes."""
    many = 0
    for at, box in enumerate(boxes):
        many = many + sum([points_in(part) for part in pieces(box, boxes[:at])])
    return many
