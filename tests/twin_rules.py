"""What [50] asks of lots and twins, followed word by word, to test against."""

import naive
from makers import items_of
from model import known_of

from boundstead.trees import Tree


def leaves_of(tree):
    """The items of each leaf page."""
    return {number: entries for number, level, entries in tree.pages() if level == 0}


def flaws_of_twin(tree, lot, twin):
    """What is wrong with a twin for the lot, whose form is that of one."""
    leaves, known, flaws = leaves_of(tree), known_of(tree), []
    numbers = [number for number, _ in twin]
    if numbers != sorted(set(numbers)):
        flaws.append("order of numbers")
    for number, items in twin:
        if number not in leaves or number in lot:
            flaws.append("number")
            continue
        keys = [item[0] for item in items]
        if keys != sorted(set(keys)):
            flaws.append("order of keys")
        for key, box, speed in items:
            if not (0 <= key <= 10 ** 9 and len(box) == len(speed) == tree.axes):
                flaws.append("item")
            if not all(-10 ** 6 <= low <= high <= 10 ** 6 for low, high in box):
                flaws.append("box")
            if not all(-100 <= rate <= 100 for rate in speed):
                flaws.append("speed")
        count, bounds = known[number]
        if count is None:
            if len(items) > tree.most:
                flaws.append("too many")
        elif len(items) != count:
            flaws.append("count")
        elif naive.bounds_of(items) != bounds:
            flaws.append("bounds")
    keys = [item[0] for item in twin_items(tree, twin)]
    if len(set(keys)) != len(keys):
        flaws.append("keys")
    return flaws


def twin_items(tree, twin):
    """The items of the twin, by ascending key."""
    numbers = [number for number, _ in twin]
    kept = [item for number, items in leaves_of(tree).items() if number not in numbers for item in items]
    return tuple(sorted(kept + [item for _, items in twin for item in items]))


def subsets(numbers):
    """All tuples of some of the numbers."""
    made = [()]
    for number in numbers:
        made += [(*one, number) for one in made]
    return made


def some_twin(rng, tree, lot):
    """A twin for the lot: pages with other items, whose parts are those of the page's own, shuffled."""
    rows, fresh = [], 10 ** 6
    for number, items in leaves_of(tree).items():
        if number in lot or rng.random() < 0.3:
            continue
        if len(tree.pages()) == 1:
            items = sorted(items_of(rng, tree.axes, rng.randint(0, tree.most), room=25))
        else:
            axes = range(tree.axes)
            pairs = [rng.sample([item[1][axis] for item in items], len(items)) for axis in axes]
            rates = [rng.sample([item[2][axis] for item in items], len(items)) for axis in axes]
            keys = [item[0] if rng.random() < 0.5 else fresh + at for at, item in enumerate(items)]
            items = sorted(
                (key, tuple(pairs[axis][at] for axis in axes), tuple(rates[axis][at] for axis in axes))
                for at, key in enumerate(keys)
            )
            fresh += 100
        rows.append((number, tuple(items)))
    return tuple(sorted(rows))


def page_of(items):
    """A row's items with the keys 0, 1, .. from pairs (box, speed)."""
    return tuple((key, box, speed) for key, (box, speed) in enumerate(items))


def two_pages(shapes, others=None, most=6):
    """A tree with the pages 1, of items with these boxes and speeds, and 2, of others far off."""
    axes = len(shapes[0][0])
    if others is None:
        others = [(((900000 + at, 900000 + at),) * axes, (at,) * axes) for at in range(3)]
    near = [(10 + at, *shape) for at, shape in enumerate(shapes)]
    far = [(50 + at, *shape) for at, shape in enumerate(others)]
    return Tree.from_pages(axes, ((9, 1, (1, 2)), (1, 0, near), (2, 0, far)), most=most)
