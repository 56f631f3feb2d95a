"""Statements: what form their parts have."""

from boundstead.kinds import is_integer, is_sequence
from boundstead.questions import WORDS

GREATEST_NUMBER = 999999999999


def is_whole(value):
    """Whether value is an integer of at most twelve digits."""
    return is_integer(value) and -GREATEST_NUMBER <= value <= GREATEST_NUMBER


def is_row(value):
    """Whether value is a sequence of one or more such integers."""
    return is_sequence(value) and len(value) > 0 and all([is_whole(each) for each in value])


def is_row_or_none(value):
    """Whether value is such a sequence, or None."""
    return value is None or is_row(value)


def is_area(value):
    """Whether value is a sequence of one or more pairs of such integers."""
    if not is_sequence(value) or len(value) == 0:
        return False
    return all([is_row(pair) and len(pair) == 2 for pair in value])


def is_demand(value):
    """Whether value is a pair of a condition's word and such pairs."""
    return is_sequence(value) and len(value) == 2 and value[0] in WORDS and is_area(value[1])


def are_demands(value):
    """Whether value is a sequence of any number of such conditions."""
    return is_sequence(value) and all([is_demand(each) for each in value])


PARTS = {
    "put": (is_whole, is_area, is_row_or_none),
    "drop": (is_whole,),
    "turn": (is_whole, is_whole, is_row),
    "select": (are_demands, is_whole),
    "count": (are_demands, is_whole),
    "nearest": (is_whole, is_area, is_whole),
    "skyline": (is_whole,),
    "during": (is_area, is_whole, is_whole),
    "first": (is_area, is_row, is_whole, is_whole),
    "commit": (),
    "rollback": (),
}


def is_statement(value):
    """Whether value is a statement."""
    if not is_sequence(value) or len(value) == 0:
        return False
    word = value[0]
    if not isinstance(word, str) or word not in PARTS or len(value) != len(PARTS[word]) + 1:
        return False
    for check, part in zip(PARTS[word], value[1:]):
        if not check(part):
            return False
    return True
