"""Whether items that are possible within bounds meet at a time, and which pages a join needs for it."""

from boundstead.errors import BadValue
from boundstead.items import bounds_of
from boundstead.kinds import is_time


def meeting_rates_on(bound, other, time):
    """Speeds within two bounds of an axis at which the greatest possible places meet on it, or None."""
    low, high, slow, fast = bound
    far_low, far_high, far_slow, far_fast = other
    # The places meet if far_low - high <= (rate - far_rate) * time <= far_high - low, and the
    # difference of the speeds is an integer.
    least = slow - far_fast
    most = fast - far_slow
    if time > 0:
        least = max(least, -((high - far_low) // time))
        most = min(most, (far_high - low) // time)
    elif far_low > high or low > far_high:
        return None
    if least > most:
        return None
    far_rate = max(far_slow, slow - least)
    return (far_rate + least, far_rate)


def meeting_speeds(one, other, time):
    """A speed within each of two bounds with which items that are possible in them meet, or None."""
    rows = []
    for bound, far_bound in zip(one, other):
        rates = meeting_rates_on(bound, far_bound, time)
        if rates is None:
            return None
        rows.append(rates)
    return (tuple([rate for rate, _ in rows]), tuple([far_rate for _, far_rate in rows]))


def may_meet(one, other, time):
    """Whether some item that is possible within the one bounds meets some within the other ones."""
    return meeting_speeds(one, other, time) is not None


def has_partner(stands, bounds, time):
    """Whether an item of which these bounds are known meets some item that is possible within other bounds."""
    return any([may_meet(stand, bounds, time) for stand in stands])


def known_leaves(tree):
    """For each leaf page, by its ascending number, the known bounds and a list of those of each of its items."""
    stands = {}
    for number, level, entries in tree.pages():
        if level == 0:
            stands[number] = [bounds_of([item]) for item in entries]
    return {number: (bounds, stands[number]) for number, _, bounds in tree.directory()}


def check_join(one, other, time):
    """BadValue unless the trees can be joined, and time is one."""
    if one.axes != other.axes:
        raise BadValue(1)
    if not is_time(time):
        raise BadValue(2)
