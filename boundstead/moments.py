"""Moments: exact fractions, places of moving boxes, and when two of them meet."""

from math import gcd

from boundstead.errors import BadValue
from boundstead.kinds import is_integer


def fraction_of(top, bottom):
    """The fraction equal to top / bottom, in lowest terms, its bottom at least 1."""
    if not is_integer(top):
        raise BadValue(0)
    if not is_integer(bottom) or bottom == 0:
        raise BadValue(1)
    factor = gcd(top, bottom)
    if bottom < 0:
        factor = -factor
    return (top // factor, bottom // factor)


def compare_moments(one, other):
    """-1, 0 or 1, as the fraction one is less than, equal to or greater than other."""
    left = one[0] * other[1]
    right = other[0] * one[1]
    if left < right:
        return -1
    if left > right:
        return 1
    return 0


def place_at(box, speed, time):
    """The place at the time of a box with a speed."""
    return tuple([(low + rate * time, high + rate * time) for (low, high), rate in zip(box, speed)])


def narrowed(span, rate, room):
    """The part of the span in which rate * moment <= room, or None if there is none."""
    if span is None:
        return None
    if rate == 0:
        return span if room >= 0 else None
    first, last = span
    limit = fraction_of(room, rate)
    if rate > 0 and compare_moments(limit, last) < 0:
        last = limit
    if rate < 0 and compare_moments(limit, first) > 0:
        first = limit
    if compare_moments(first, last) > 0:
        return None
    return (first, last)


def meeting_span(one, one_speed, other, other_speed, start, end):
    """The first and the last moment of the span at which the moving boxes meet, or None."""
    span = (fraction_of(start, 1), fraction_of(end, 1))
    for axis, (low, high) in enumerate(one):
        far_low, far_high = other[axis]
        rate = one_speed[axis] - other_speed[axis]
        span = narrowed(span, rate, far_high - low)
        span = narrowed(span, -rate, high - far_low)
    return span
