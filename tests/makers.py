"""Boxes, speeds, items and questions, made with a random source that the tests seed."""

from helpers import random_box

WORDS = ("meets", "inside", "covers")
KINDS = ("select", "count", "nearest", "skyline", "during", "first")


def speed_of(rng, axes, most):
    """A speed of at most so much on each axis."""
    return tuple(rng.randint(-most, most) for _ in range(axes))


def small_box(rng, axes, room, width):
    """A box of at most so much width within the room on each axis."""
    lows = [rng.randint(-room, room) for _ in range(axes)]
    return tuple((low, low + rng.randint(0, width)) for low in lows)


def items_of(rng, axes, many, room=30, width=6, most=2):
    """So many items with different keys, in no order."""
    keys = rng.sample(range(1000), many)
    return [(key, small_box(rng, axes, room, width), speed_of(rng, axes, most)) for key in keys]


def conditions_of(rng, axes, room):
    """Up to four conditions."""
    many = rng.choice((0, 1, 1, 1, 2, 2, 3, 4))
    made = []
    for _ in range(many):
        word = rng.choice(WORDS)
        made.append((word, small_box(rng, axes, room, 3) if word == "covers" else random_box(rng, axes, -room, room)))
    return tuple(made)


def question_of(rng, axes, kind, room=30, last=6, most=2):
    """A question of the kind about the neighbourhood of 0."""
    time = rng.randint(0, last)
    if kind in ("select", "count"):
        return (kind, conditions_of(rng, axes, room), time)
    if kind == "nearest":
        return (kind, rng.choice((1, 2, 3, 5, 10, 30, 100)), small_box(rng, axes, room, 8), time)
    if kind == "skyline":
        return (kind, time)
    start, end = sorted((rng.randint(0, last), rng.randint(0, last)))
    if kind == "during":
        return (kind, small_box(rng, axes, room, 8), start, end)
    return (kind, small_box(rng, axes, 2 * room, 8), speed_of(rng, axes, most), start, end)
