"""Cuts: texts that tell which pages are read, and why no other one needs to be."""

from boundstead.errors import BadValue
from boundstead.questions import is_question
from boundstead.reasons import answer_horizon, reason_of


def line_of(words):
    """The line of a cut with these words, which are strings and integers."""
    return " ".join([str(word) for word in words]) + "\n"


def cut(tree, question):
    """The cut that reads exactly the needed pages, each other page shut as high up as can be."""
    if not is_question(tree.axes, question):
        raise BadValue(1)
    horizon = answer_horizon(question, tree.all_items())
    rows = {number: (level, entries) for number, level, entries in tree.pages()}
    lines = []
    due = [tree.root]
    while due:
        number = due.pop()
        level, entries = rows[number]
        reason = reason_of(question, tree.known(number), horizon)
        if reason is not None:
            lines.append(line_of((reason[0], number, *reason[1:])))
        elif level == 0:
            lines.append(line_of(("read", number)))
        else:
            lines.append(line_of(("open", number)))
            due.extend(entries[::-1])
    return "".join(lines)
