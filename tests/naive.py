"""The document's definitions, followed word by word and slowly, to test against."""

from fractions import Fraction


def rests(*boxes):
    """Items with the keys 0, 1, .. and these boxes, which rest."""
    return tuple((key, box, (0,) * len(box)) for key, box in enumerate(boxes))


def bounds_of(items):
    """[26]"""
    axes = range(len(items[0][1]))
    return tuple(
        (
            min(item[1][axis][0] for item in items),
            max(item[1][axis][1] for item in items),
            min(item[2][axis] for item in items),
            max(item[2][axis] for item in items),
        )
        for axis in axes
    )


def joined(*many):
    """[26], for any number of bounds."""
    return tuple(
        (
            min(bounds[axis][0] for bounds in many),
            max(bounds[axis][1] for bounds in many),
            min(bounds[axis][2] for bounds in many),
            max(bounds[axis][3] for bounds in many),
        )
        for axis in range(len(many[0]))
    )


def ranges(bounds):
    """The integers from low + slow to high + fast, for each axis."""
    return [range(low + slow, high + fast + 1) for low, high, slow, fast in bounds]


def reach(bounds):
    """[27]"""
    many = 1
    for each in ranges(bounds):
        many *= len(each)
    return many


def shared(one, other):
    """[27]"""
    many = 1
    for mine, its in zip(ranges(one), ranges(other)):
        many *= len(range(max(mine.start, its.start), min(mine.stop, its.stop)))
    return many


def divisions(entries, least):
    """The candidate divisions of [28], in their order, with their costs."""
    for axis in range(len(entries[0])):
        for side in ("low", "high"):
            for cut in range(least, len(entries) - least + 1):
                order = list(range(len(entries)))
                if side == "low":
                    order.sort(key=lambda at: (entries[at][axis][0] + entries[at][axis][2], at))
                else:
                    order.sort(key=lambda at: (entries[at][axis][1] + entries[at][axis][3], at))
                groups = tuple(sorted(order[:cut])), tuple(sorted(order[cut:]))
                one, other = (joined(*[entries[at] for at in group]) for group in groups)
                yield (shared(one, other), reach(one) + reach(other)), groups


def best_split(entries, least):
    """[28]"""
    candidates = list(divisions(entries, least))
    least_cost = min(cost for cost, _ in candidates)
    groups = next(groups for cost, groups in candidates if cost == least_cost)
    return groups if 0 in groups[0] else groups[::-1]


def best_kid(entries, bounds):
    """[28]"""
    growth = [reach(joined(entry, bounds)) - reach(entry) for entry in entries]
    at_best = [at for at in range(len(entries)) if growth[at] == min(growth)]
    smallest = min(reach(entries[at]) for at in at_best)
    return next(at for at in at_best if reach(entries[at]) == smallest)


def place(item, moment):
    """[21]"""
    return [(low + rate * moment, high + rate * moment) for (low, high), rate in zip(item[1], item[2])]


def distance(item, box, time):
    """[30]"""
    gap = 0
    for (low, high), (far_low, far_high) in zip(place(item, time), box):
        if high < far_low:
            gap += (far_low - high) ** 2
        elif far_high < low:
            gap += (low - far_high) ** 2
    return gap


def fulfils(item, condition, time):
    """[29]"""
    word, box = condition
    for (low, high), (far_low, far_high) in zip(place(item, time), box):
        if word == "meets" and (high < far_low or far_high < low):
            return False
        if word == "inside" and not (far_low <= low and high <= far_high):
            return False
        if word == "covers" and not (low <= far_low and far_high <= high):
            return False
    return True


def beats(one, other, time):
    """[31]"""
    lows = [(mine[0], its[0]) for mine, its in zip(place(one, time), place(other, time))]
    return all(mine <= its for mine, its in lows) and any(mine < its for mine, its in lows)


def is_met_at(item, box, rates, moment):
    """[25]"""
    moving = place((None, box, rates), moment)
    return all(
        low <= far_high and far_low <= high
        for (low, high), (far_low, far_high) in zip(place(item, moment), moving)
    )


def met_moments(item, box, rates, start, end):
    """The moments, in order, at which the item begins or ends to meet the box, or the span does."""
    moments = {Fraction(start), Fraction(end)}
    for (low, high), speed, (far_low, far_high), rate in zip(item[1], item[2], box, rates):
        if speed != rate:
            moments.add(Fraction(far_low - high, speed - rate))
            moments.add(Fraction(far_high - low, speed - rate))
    inner = sorted(moment for moment in moments if start <= moment <= end)
    return [moment for moment in inner if is_met_at(item, box, rates, moment)]


def answer(items, question):
    """[30] to [32]"""
    kind, *parts = question
    if kind in ("select", "count"):
        conditions, time = parts
        keys = [item[0] for item in items if all(fulfils(item, each, time) for each in conditions)]
        return tuple(sorted(keys)) if kind == "select" else len(keys)
    if kind == "nearest":
        many, box, time = parts
        pairs = [(distance(item, box, time), item[0]) for item in items]
        if len(pairs) > many:
            pairs = [pair for pair in pairs if pair[0] <= sorted(each for each, _ in pairs)[many - 1]]
        return tuple(sorted(pairs))
    if kind == "skyline":
        time, = parts
        return tuple(sorted(
            item[0] for item in items if not any(beats(other, item, time) for other in items)
        ))
    if kind == "during":
        box, start, end = parts
        still = [0] * len(box)
        return tuple(sorted(item[0] for item in items if met_moments(item, box, still, start, end)))
    box, rates, start, end = parts
    firsts = [(met_moments(item, box, rates, start, end)[:1], item[0]) for item in items]
    firsts = [(moments[0], key) for moments, key in firsts if moments]
    if not firsts:
        return None
    first = min(firsts)[0]
    return ((first.numerator, first.denominator), tuple(sorted(key for moment, key in firsts if moment == first)))
