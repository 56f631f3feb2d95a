"""Divisions: how the entries of a page are split, and which kid grows least."""

from boundstead.items import joined, reach, shared


def order_by(entries, axis, is_high):
    """The positions of entries by where they begin, or end, on the axis; equal ones by position."""
    rows = []
    for at, bounds in enumerate(entries):
        low, high, slow, fast = bounds[axis]
        rows.append((high + fast if is_high else low + slow, at))
    return [at for _, at in sorted(rows)]


def running(entries):
    """For each of the entries the bounds joined from the first one up to it."""
    held = [entries[0]]
    for bounds in entries[1:]:
        held.append(joined(held[-1], bounds))
    return held


def costs_of(entries, order, least):
    """The cost and the cut of each division of the order, by ascending cut."""
    many = len(order)
    heads = running([entries[at] for at in order])
    tails = running([entries[at] for at in reversed(order)])
    costs = []
    for cut in range(least, many - least + 1):
        head = heads[cut - 1]
        tail = tails[many - cut - 1]
        costs.append(((shared(head, tail), reach(head) + reach(tail)), cut))
    return costs


def best_split(entries, least):
    """The first division of least cost, as two tuples of positions, that of position 0 first."""
    best = None
    groups = None
    for axis in range(len(entries[0])):
        for is_high in (False, True):
            order = order_by(entries, axis, is_high)
            for cost, cut in costs_of(entries, order, least):
                if best is None or cost < best:
                    best = cost
                    groups = (tuple(sorted(order[:cut])), tuple(sorted(order[cut:])))
    one, other = groups
    if one[0] == 0:
        return (one, other)
    return (other, one)


def best_kid(entries, bounds):
    """The position of the entry whose reach grows least when bounds are joined to it."""
    rows = []
    for at, entry in enumerate(entries):
        own = reach(entry)
        rows.append((reach(joined(entry, bounds)) - own, own, at))
    return min(rows)[2]
