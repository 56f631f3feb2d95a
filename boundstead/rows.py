"""Rows (number, level, entries) that are passed: whether a well-formed tree has them."""

from boundstead.errors import BadPages
from boundstead.items import is_item_of, plain_item
from boundstead.kinds import MOST_ITEMS, is_integer, is_page_number, is_sequence


def is_ascending(keys):
    """Whether each key is greater than the one before it."""
    return all([one < other for one, other in zip(keys, keys[1:])])


def plain_row(axes, row):
    """The row, made of plain tuples; BadPages if it has not the form of a row."""
    if not is_sequence(row) or len(row) != 3:
        raise BadPages()
    number, level, entries = row
    if not is_page_number(number) or not is_integer(level) or level < 0 or not is_sequence(entries):
        raise BadPages()
    if level == 0:
        if not all([is_item_of(axes, entry) for entry in entries]):
            raise BadPages()
        plain = tuple([plain_item(entry) for entry in entries])
        keys = [item[0] for item in plain]
    else:
        if not all([is_page_number(entry) for entry in entries]):
            raise BadPages()
        plain = tuple(entries)
        keys = list(plain)
    if not is_ascending(keys):
        raise BadPages()
    return (number, level, plain)


def check_places(rows):
    """BadPages unless the rows are those of a root and of all pages below it, in their order."""
    seen = {}
    due = [rows[0][:2]]
    for number, level, entries in rows:
        # What stands on top of due is the page whose row must come now.
        if not due or due.pop() != (number, level) or number in seen:
            raise BadPages()
        seen[number] = True
        if level > 0:
            due.extend([(kid, level - 1) for kid in entries[::-1]])
    if due:
        raise BadPages()


def check_counts(rows, most):
    """BadPages if a page, of which the root comes first, has too few or too many entries."""
    least = 0 if rows[0][1] == 0 else 2
    for _, _, entries in rows:
        if not least <= len(entries) <= most:
            raise BadPages()
        least = most // 2


def check_items(rows):
    """BadPages if there are too many items, or two with the same key."""
    keys = [item[0] for _, level, entries in rows if level == 0 for item in entries]
    if len(keys) > MOST_ITEMS or len(set(keys)) != len(keys):
        raise BadPages()


def checked_rows(axes, pages, most):
    """The pages as rows of plain tuples; BadPages if no well-formed tree has them."""
    if not is_sequence(pages) or len(pages) == 0:
        raise BadPages()
    rows = [plain_row(axes, row) for row in pages]
    check_places(rows)
    check_counts(rows, most)
    check_items(rows)
    return rows
