"""Items, the bounds that hold them, and how far bounds reach."""

from boundstead.boxes import is_box
from boundstead.kinds import COORDINATE_LIMIT, SPEED_LIMIT, is_key, is_sequence, is_speed


def is_box_of(axes, value):
    """Whether value is a box of so many axes."""
    return is_box(value) and len(value) == axes


def is_speed_of(axes, value):
    """Whether value is a speed of so many axes."""
    return is_speed(value) and len(value) == axes


def is_item(value):
    """Whether value is an item: a key, a box and a speed, both of equally many axes."""
    if not is_sequence(value) or len(value) != 3:
        return False
    key, box, speed = value
    return is_key(key) and is_box(box) and is_speed(speed) and len(box) == len(speed)


def is_item_of(axes, value):
    """Whether value is an item of so many axes."""
    return is_item(value) and len(value[1]) == axes


def plain_item(item):
    """The item, made of plain tuples."""
    key, box, speed = item
    return (key, tuple([tuple(pair) for pair in box]), tuple(speed))


def bounds_of(items):
    """The bounds of the items, of which there is at least one."""
    bounds = []
    for axis in range(len(items[0][1])):
        pairs = [item[1][axis] for item in items]
        rates = [item[2][axis] for item in items]
        low = min([pair[0] for pair in pairs])
        high = max([pair[1] for pair in pairs])
        bounds.append((low, high, min(rates), max(rates)))
    return tuple(bounds)


def joined(one, other):
    """The least bounds that hold both bounds."""
    bounds = []
    for (low, high, slow, fast), (far_low, far_high, far_slow, far_fast) in zip(one, other):
        bounds.append((min(low, far_low), max(high, far_high), min(slow, far_slow), max(fast, far_fast)))
    return tuple(bounds)


def widest(axes):
    """The bounds that hold every item of so many axes."""
    return tuple([(-COORDINATE_LIMIT, COORDINATE_LIMIT, -SPEED_LIMIT, SPEED_LIMIT) for _ in range(axes)])


def is_possible(bounds, box, speed):
    """Whether an item with the box and the speed keeps within the bounds."""
    for (least, most, slow, fast), (low, high), rate in zip(bounds, box, speed):
        if low < least or high > most or not slow <= rate <= fast:
            return False
    return True


def reach(bounds):
    """How many points the bounds reach within one step of time."""
    many = 1
    for low, high, slow, fast in bounds:
        many = many * (high + fast - (low + slow) + 1)
    return many


def shared(one, other):
    """How many points both bounds reach within one step of time."""
    many = 1
    for (low, high, slow, fast), (far_low, far_high, far_slow, far_fast) in zip(one, other):
        first = max(low + slow, far_low + far_slow)
        last = min(high + fast, far_high + far_fast)
        many = many * max(0, last - first + 1)
    return many
