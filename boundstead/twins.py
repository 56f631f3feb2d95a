"""Twins: other items for a page, of which what is known from the pages above stays true."""

from boundstead.possible import fulfilling_on, nearest_on


def widest_box(bounds):
    """The greatest box that is possible within the bounds."""
    return tuple([(low, high) for low, high, _, _ in bounds])


def lowest_shape(bounds):
    """The box and the speed within the bounds whose place has at each time the least lows and highs."""
    return (tuple([(low, low) for low, _, _, _ in bounds]), tuple([slow for _, _, slow, _ in bounds]))


def highest_shape(bounds):
    """The box and the speed within the bounds whose place has at each time the greatest lows and highs."""
    return (tuple([(high, high) for _, high, _, _ in bounds]), tuple([fast for _, _, _, fast in bounds]))


def fulfilling_shape(bounds, conditions, time):
    """A box and a speed within the bounds that fulfil conditions which some of them fulfil."""
    rows = [fulfilling_on(bounds, conditions, time, axis) for axis in range(len(bounds))]
    return (tuple([(low, high) for low, high, _ in rows]), tuple([rate for _, _, rate in rows]))


def nearest_shape(bounds, box, time):
    """A box and a speed within the bounds whose place is as near to the box as any."""
    return (widest_box(bounds), tuple([nearest_on(bound, pair, time)[1] for bound, pair in zip(bounds, box)]))


def fresh_keys(tree, many):
    """The least keys that no item of the tree has."""
    keys = []
    key = 0
    while len(keys) < many:
        if key not in tree:
            keys.append(key)
        key = key + 1
    return keys


def twin_row(tree, number, shape):
    """The number of a leaf page, and other items for it: new keys, what is known, and one of the shape."""
    count, bounds = tree.known(number)
    shapes = [shape]
    if count is not None:
        # A page that is not the only one has at least three items. Two of them, as slow and
        # as fast as can be, reach all the bounds; so the others may be what they like.
        box = widest_box(bounds)
        slowest = (box, lowest_shape(bounds)[1])
        fastest = (box, highest_shape(bounds)[1])
        shapes = [shape] * (count - 2) + [slowest, fastest]
    keys = fresh_keys(tree, len(shapes))
    return (number, tuple([(key, box, speed) for key, (box, speed) in zip(keys, shapes)]))
