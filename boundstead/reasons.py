"""Reasons why a page need not be read, as the lines of cuts tell them."""

from boundstead.moments import compare_moments
from boundstead.possible import corner_of, is_certain, is_fulfillable_on, least_distance
from boundstead.possible import whole_span, window_of, window_on
from boundstead.questions import distances, is_below, lows_at, plain_answer


def horizon_of(question, items):
    """What these items tell of how far an answer goes, or None.

    For nearest it is the many-th smallest distance, for skyline a dict of the lows of each
    item by its ascending key, for first the moment of the answer.
    """
    kind = question[0]
    if kind == "nearest":
        _, many, box, time = question
        pairs = distances(items, box, time)
        return pairs[many - 1][0] if len(pairs) >= many else None
    if kind == "skyline":
        return {item[0]: lows_at(item, question[1]) for item in sorted(items)}
    if kind == "first":
        told = plain_answer(items, question)
        return None if told is None else told[0]
    return None


def answer_horizon(question, items):
    """The horizon of the items, for skyline of those in the answer alone."""
    if question[0] != "skyline":
        return horizon_of(question, items)
    # What any item beats is also beaten by one that no item beats.
    keys = plain_answer(items, question)
    return horizon_of(question, [item for item in items if item[0] in keys])


def is_apart(question, bounds, axes):
    """Whether nothing within the bounds meets the box on all of the axes, but does on each of several."""
    _, box, start, end = question
    rest = [0 for _ in box]
    whole = whole_span(start, end)
    together = whole
    for axis in axes:
        if len(axes) > 1 and window_on(bounds, box, rest, axis, whole) is None:
            return False
        together = window_on(bounds, box, rest, axis, together)
    return together is None


def is_late(question, bounds, horizon):
    """Whether nothing within the bounds meets the moving box by the moment of the horizon."""
    _, box, speed, start, end = question
    span = window_of(bounds, box, speed, start, end)
    if span is None:
        return True
    return horizon is not None and compare_moments(span[0], horizon) > 0


def is_true(question, known, horizon, reason):
    """Whether the reason holds for a page of which this is known."""
    word, *places = reason
    count, bounds = known
    if word == "shut":
        return not is_fulfillable_on(bounds, question[1], question[2], places[0])
    if word == "full":
        return count is not None and is_certain(bounds, question[1], question[2])
    if word == "far":
        return horizon is not None and least_distance(bounds, question[2], question[3]) > horizon
    if word == "beaten":
        return places[0] in horizon and is_below(horizon[places[0]], corner_of(bounds, question[1]))
    if word == "apart":
        return is_apart(question, bounds, places)
    return is_late(question, bounds, horizon)


def possible_reasons(question, axes, horizon):
    """All reasons that may hold for a page, in the order in which a cut prefers them."""
    kind = question[0]
    if kind == "select":
        return [("shut", axis) for axis in range(axes)]
    if kind == "count":
        return [("shut", axis) for axis in range(axes)] + [("full",)]
    if kind == "nearest":
        return [("far",)]
    if kind == "skyline":
        return [("beaten", key) for key in horizon]
    if kind == "during":
        pairs = [("apart", one, other) for one in range(axes) for other in range(one + 1, axes)]
        return [("apart", axis) for axis in range(axes)] + pairs
    return [("late",)]


def reason_of(question, known, horizon):
    """The first reason not to read a page of which this is known, or None if it is needed."""
    for reason in possible_reasons(question, len(known[1]), horizon):
        if is_true(question, known, horizon, reason):
            return reason
    return None
