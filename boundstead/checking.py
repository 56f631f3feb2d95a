"""Checking cuts, line by line, by what is known of the pages and the items that are read."""

from boundstead.errors import BadCut, BadValue
from boundstead.kinds import is_integer
from boundstead.questions import is_question, plain_answer
from boundstead.reasons import horizon_of, is_true

MOST_DIGITS = 10
PAGE_WORDS = ("open", "read")
REASON_WORDS = {
    "select": ("shut",),
    "count": ("shut", "full"),
    "nearest": ("far",),
    "skyline": ("beaten",),
    "during": ("apart",),
    "first": ("late",),
}


def is_number(part):
    """Whether the part of a line is a number of at most ten digits without leading zeros."""
    if not 1 <= len(part) <= MOST_DIGITS or not part.isascii() or not part.isdigit():
        return False
    return part == "0" or part[0] != "0"


def is_fitting(word, rest, axes):
    """Whether these numbers may stand behind the word and the page's number."""
    if word == "beaten":
        return len(rest) == 1
    if word == "shut":
        return len(rest) == 1 and rest[0] < axes
    if word == "apart":
        if len(rest) == 2 and rest[0] >= rest[1]:
            return False
        return len(rest) in (1, 2) and rest[-1] < axes
    return len(rest) == 0


def parsed_line(line, kind, axes):
    """The word and the numbers of a line, or None if it has no form for the kind of question."""
    word, *parts = line.split(" ")
    if word not in PAGE_WORDS and word not in REASON_WORDS[kind]:
        return None
    if len(parts) == 0 or not all([is_number(part) for part in parts]):
        return None
    numbers = [int(part) for part in parts]
    if not is_fitting(word, numbers[1:], axes):
        return None
    return (word, *numbers)


def is_due(words, number, level):
    """Whether the line's words may stand for the page with the number and the level."""
    if words is None or words[1] != number:
        return False
    if words[0] in PAGE_WORDS:
        return words[0] == ("read" if level == 0 else "open")
    return True


def parsed_cut(tree, kind, text):
    """The words and numbers of each line; BadCut if the text has not the form of a cut."""
    if not isinstance(text, str):
        raise BadCut(0)
    rows = {number: (level, entries) for number, level, entries in tree.pages()}
    *lines, tail = text.split("\n")
    due = [tree.root]
    told = []
    for at, line in enumerate(lines):
        if not due:
            raise BadCut(at)
        number = due.pop()
        level, entries = rows[number]
        words = parsed_line(line, kind, tree.axes)
        if not is_due(words, number, level):
            raise BadCut(at)
        if words[0] == "open":
            due.extend(entries[::-1])
        told.append(words)
    # A line that has no line feed is as wrong as one that is missing.
    if tail != "" or due:
        raise BadCut(len(lines))
    return told


def is_same(told, value):
    """Whether told is the value, made of plain tuples, integers and None."""
    if value is None:
        return told is None
    if is_integer(value):
        return is_integer(told) and told == value
    if not isinstance(told, tuple) or len(told) != len(value):
        return False
    return all([is_same(one, other) for one, other in zip(told, value)])


def cut_holds(tree, question, told, text):
    """Whether told is what the cut yields; BadCut if the text is no cut with true reasons."""
    if not is_question(tree.axes, question):
        raise BadValue(1)
    lines = parsed_cut(tree, question[0], text)
    leaves = {number: entries for number, level, entries in tree.pages() if level == 0}
    items = [item for words in lines if words[0] == "read" for item in leaves[words[1]]]
    horizon = horizon_of(question, items)
    full = 0
    for at, (word, number, *rest) in enumerate(lines):
        known = tree.known(number)
        if word not in PAGE_WORDS and not is_true(question, known, horizon, (word, *rest)):
            raise BadCut(at)
        if word == "full":
            full = full + known[0]
    value = plain_answer(items, question)
    return is_same(told, value + full if question[0] == "count" else value)
