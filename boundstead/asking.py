"""Asking a tree: answers, the pages that are needed for them, and what is free."""

from boundstead.boxes import meets, pieces
from boundstead.errors import BadValue, TooMany
from boundstead.items import is_box_of
from boundstead.kinds import is_time
from boundstead.moments import place_at
from boundstead.possible import is_certain
from boundstead.questions import distances, is_question, plain_answer
from boundstead.reasons import answer_horizon, reason_of

MOST_HOLES = 8


def answer(tree, question):
    """The answer for the tree's items."""
    if not is_question(tree.axes, question):
        raise BadValue(1)
    return plain_answer(tree.all_items(), question)


def pages_read(tree, question):
    """The numbers of the needed leaf pages, ascending."""
    if not is_question(tree.axes, question):
        raise BadValue(1)
    horizon = answer_horizon(question, tree.all_items())
    numbers = []
    for number, count, bounds in tree.directory():
        if reason_of(question, (count, bounds), horizon) is None:
            numbers.append(number)
    return tuple(numbers)


def answer_from(tree, question, read):
    """The answer, from a dict of the items on the needed pages alone and what is known of the others."""
    told = plain_answer([item for items in read.values() for item in items], question)
    if question[0] != "count":
        return told
    _, conditions, time = question
    rows = [(count, bounds) for number, count, bounds in tree.directory() if number not in read]
    return told + sum([count for count, bounds in rows if is_certain(bounds, conditions, time)])


def ranked(tree, box, time):
    """Yield the pairs (distance, key) of all items of the tree, ascending."""
    for pair in distances(tree.all_items(), box, time):
        yield pair


def free_space(tree, box, time):
    """Boxes without a common point, of the points of box that no item covers at the time."""
    if not is_box_of(tree.axes, box):
        raise BadValue(1)
    if not is_time(time):
        raise BadValue(2)
    places = [place_at(each, speed, time) for _, each, speed in tree.all_items()]
    holes = [place for place in places if meets(place, box)]
    if len(holes) > MOST_HOLES:
        raise TooMany("items")
    return pieces(box, holes)
