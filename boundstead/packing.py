"""Packing: the pages of a tree that is made from all of its items at once."""

from boundstead.items import bounds_of, joined


def middle(bounds, axis):
    """Twice the middle of the bounds on the axis, one step of time from now."""
    low, high, slow, fast = bounds[axis]
    return low + slow + high + fast


def widest_axis(hulls, places):
    """The axis on which the middles of the bounds at these places lie farthest apart."""
    spreads = []
    for axis in range(len(hulls[0])):
        middles = [middle(hulls[at], axis) for at in places]
        spreads.append((min(middles) - max(middles), axis))
    return min(spreads)[1]


def divided(hulls, places, many):
    """The places in so many groups of nearly equal size, neighbours together."""
    if many == 1:
        return [places]
    axis = widest_axis(hulls, places)
    order = [at for _, at in sorted([(middle(hulls[at], axis), at) for at in places])]
    # Neither part gets more entries than its pages hold, nor fewer than they need:
    # if many * least <= n <= many * most, the same is true of each part.
    half = many // 2
    cut = len(order) * half // many
    return divided(hulls, order[:cut], half) + divided(hulls, order[cut:], many - half)


def hull_of_all(hulls):
    """The bounds that hold all these bounds."""
    held = hulls[0]
    for bounds in hulls[1:]:
        held = joined(held, bounds)
    return held


def packed_rows(items, most):
    """The rows of the pages of a tree with these items, each row before those of the kids."""
    entries = sorted(items)
    hulls = [bounds_of([item]) for item in entries]
    rows = []
    level = 0
    while len(entries) > most:
        groups = divided(hulls, list(range(len(entries))), -(-len(entries) // most))
        numbers = [len(rows) + at for at in range(len(groups))]
        for number, group in zip(numbers, groups):
            rows.append((number, level, tuple([entries[at] for at in sorted(group)])))
        hulls = [hull_of_all([hulls[at] for at in group]) for group in groups]
        entries = numbers
        level = level + 1
    rows.append((len(rows), level, tuple(entries)))
    return rows[::-1]
