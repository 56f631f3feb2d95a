"""Lots of leaf pages, whether they settle a question, and twins that show that they do not."""

from boundstead.asking import answer, pages_read
from boundstead.errors import BadValue
from boundstead.items import bounds_of, is_item_of, plain_item
from boundstead.kinds import is_integer, is_sequence
from boundstead.questions import is_question, plain_answer
from boundstead.rows import is_ascending
from boundstead.twins import fulfilling_shape, highest_shape, lowest_shape, nearest_shape, twin_row

KINDS = ("select", "count", "nearest", "skyline")


def check_question(tree, question):
    """BadValue unless the question is one for the tree, of a kind that lots settle."""
    if not is_question(tree.axes, question) or question[0] not in KINDS:
        raise BadValue(1)


def leaf_numbers(tree):
    """The numbers of the leaf pages, ascending."""
    return [number for number, _, _ in tree.directory()]


def is_lot(tree, value):
    """Whether value is a sequence of different numbers of leaf pages of the tree."""
    if not is_sequence(value):
        return False
    numbers = leaf_numbers(tree)
    if not all([is_integer(number) and number in numbers for number in value]):
        return False
    return len(set(value)) == len(value)


def needed(tree, question):
    """The numbers of the needed leaf pages, ascending."""
    check_question(tree, question)
    return pages_read(tree, question)


def missing_pages(tree, question, lot):
    """The needed leaf pages that the lot lacks."""
    check_question(tree, question)
    if not is_lot(tree, lot):
        raise BadValue(2)
    return [number for number in pages_read(tree, question) if number not in lot]


def settles(tree, question, lot):
    """Whether the answer is the same for all twins for the lot."""
    return len(missing_pages(tree, question, lot)) == 0


def telling_shapes(question, bounds):
    """Boxes and speeds within the bounds of a needed page, of which one changes the answer."""
    kind = question[0]
    if kind == "nearest":
        return [nearest_shape(bounds, question[2], question[3])]
    if kind == "skyline":
        return [lowest_shape(bounds)]
    fitting = fulfilling_shape(bounds, question[1], question[2])
    if kind == "select":
        return [fitting]
    # If anything possible does not fulfil the conditions, the lowest or the highest point does not.
    return [fitting, lowest_shape(bounds), highest_shape(bounds)]


def twin_against(tree, question, lot):
    """A twin of one page for the lot that has another answer, or None if the lot settles the question."""
    missing = missing_pages(tree, question, lot)
    if len(missing) == 0:
        return None
    number = missing[0]
    count, bounds = tree.known(number)
    rows = [twin_row(tree, number, shape) for shape in telling_shapes(question, bounds)]
    if count is None:
        # Nothing is known of the page, not even that it has an item.
        rows.append((number, ()))
    told = answer(tree, question)
    twins = [(row,) for row in rows]
    return [twin for twin in twins if plain_answer(items_with(tree, twin), question) != told][0]


def kept_items(tree, numbers):
    """The items of the tree on the leaf pages that have none of these numbers."""
    items = []
    for number, level, entries in tree.pages():
        if level == 0 and number not in numbers:
            items.extend(entries)
    return items


def items_with(tree, twin):
    """The items of the twin, by ascending key."""
    items = kept_items(tree, [number for number, _ in twin])
    for _, own in twin:
        items.extend([plain_item(item) for item in own])
    return tuple(sorted(items))


def is_fitting(tree, number, items):
    """Whether these are items by ascending key that agree with all that is known of the page."""
    if not is_sequence(items) or not all([is_item_of(tree.axes, item) for item in items]):
        return False
    if not is_ascending([item[0] for item in items]):
        return False
    count, bounds = tree.known(number)
    if count is None:
        return len(items) <= tree.most
    return len(items) == count and bounds_of(items) == bounds


def is_twin_row(tree, numbers, row):
    """Whether row is a pair of one of the leaf pages and items that agree with what is known of it."""
    if not is_sequence(row) or len(row) != 2:
        return False
    number, items = row
    return is_integer(number) and number in numbers and is_fitting(tree, number, items)


def is_twin(tree, lot, twin):
    """Whether twin is a twin for the lot."""
    if not is_lot(tree, lot):
        raise BadValue(1)
    free = [number for number in leaf_numbers(tree) if number not in lot]
    if not is_sequence(twin) or not all([is_twin_row(tree, free, row) for row in twin]):
        return False
    if not is_ascending([number for number, _ in twin]):
        return False
    keys = [item[0] for item in items_with(tree, twin)]
    return len(set(keys)) == len(keys)


def twin_items(tree, twin):
    """The items of the twin, by ascending key."""
    if not is_twin(tree, (), twin):
        raise BadValue(1)
    return items_with(tree, twin)
