"""What the items that are possible within known bounds can do."""

from boundstead.moments import fraction_of, narrowed


def fulfilling_on(bounds, conditions, time, axis):
    """A (low, high, speed) within the bounds that fulfils all conditions on the axis, or None."""
    low, high, slow, fast = bounds[axis]
    # Where the low and the high of the place must lie: first all that is possible at
    # the time, then what each condition leaves of it.
    least_low = least_high = low + slow * time
    most_low = most_high = high + fast * time
    for word, box in conditions:
        one, other = box[axis]
        if word == "inside":
            least_low = max(least_low, one)
            most_high = min(most_high, other)
        elif word == "covers":
            most_low = min(most_low, one)
            least_high = max(least_high, other)
        else:
            most_low = min(most_low, other)
            least_high = max(least_high, one)
    if least_low > min(most_low, most_high) or least_high > most_high:
        return None
    # With the shift d = speed * time, the low and the high lie from low + d to high + d.
    least = max(least_low, least_high) - high
    most = min(most_low, most_high) - low
    if time == 0 and not least <= 0 <= most:
        return None
    rate = slow if time == 0 else max(slow, -(-least // time))
    if time > 0 and rate > min(fast, most // time):
        return None
    shift = rate * time
    return (max(low, least_low - shift), min(high, most_high - shift), rate)


def is_fulfillable_on(bounds, conditions, time, axis):
    """Whether a low, a high and a speed within the bounds fulfil all conditions on the axis."""
    return fulfilling_on(bounds, conditions, time, axis) is not None


def is_certain(bounds, conditions, time):
    """Whether all items that are possible within the bounds fulfil all conditions."""
    for word, box in conditions:
        for (low, high, slow, fast), (one, other) in zip(bounds, box):
            least, most = (other, one) if word == "covers" else (one, other)
            if not least <= low + slow * time <= high + fast * time <= most:
                return False
    return True


def nearest_on(bound, pair, time):
    """The least distance on an axis of a possible place from the pair, and a speed that leads there."""
    low, high, slow, fast = bound
    one, other = pair
    # Up to the speed near every place ends at or below the pair's low: the faster, the nearer.
    # Above it, it is the slower, the nearer.
    near = slow if time == 0 else (one - high) // time
    rows = []
    for guess in (near, near + 1):
        rate = min(max(guess, slow), fast)
        shift = rate * time
        rows.append((max(0, one - (high + shift), low + shift - other), rate))
    return min(rows)


def least_distance(bounds, box, time):
    """The least square of a distance from the box that a place within the bounds has at the time."""
    return sum([nearest_on(bound, pair, time)[0] ** 2 for bound, pair in zip(bounds, box)])


def corner_of(bounds, time):
    """The least low on each axis that a place within the bounds has at the time."""
    return tuple([low + slow * time for low, _, slow, _ in bounds])


def window_on(bounds, box, speed, axis, span):
    """The part of the span at which a place within the bounds may meet the moving box on the axis."""
    low, high, slow, fast = bounds[axis]
    one, other = box[axis]
    rate = speed[axis]
    return narrowed(narrowed(span, slow - rate, other - low), rate - fast, high - one)


def whole_span(start, end):
    """The span as a pair of fractions."""
    return (fraction_of(start, 1), fraction_of(end, 1))


def window_of(bounds, box, speed, start, end):
    """The part of the span at which a place within the bounds may meet the moving box on every axis."""
    span = whole_span(start, end)
    for axis in range(len(box)):
        span = window_on(bounds, box, speed, axis, span)
    return span
