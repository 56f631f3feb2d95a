"""Trees of several kinds, and twins of them, for tests of questions."""

from makers import items_of, small_box, speed_of

from boundstead.trees import Tree

NO_QUESTIONS = (
    None, True, 0, "", "select", (), [], ("select",), ("skyline", 1001), ("skyline", True), ("put", 1, ((0, 1),), None),
    ("select", (("meets", ((0, 1),) * 5),), 0), ("nearest", 0, ((0, 1),), 0), (["skyline"], 0), [[]],
)


def on_line(*rows):
    """Items (key, low, high) or (key, low, high, speed) on one axis."""
    return tuple((row[0], ((row[1], row[2]),), tuple(row[3:]) or (0,)) for row in rows)


def three_pages():
    """A tree with the pages 1 (lows 0 to 20), 2 (lows 100 to 120) and 3 (200 to 220, moving by -1)."""
    return Tree.from_pages(1, (
        (9, 1, (1, 2, 3)),
        (1, 0, on_line((0, 0, 1), (1, 10, 11), (2, 20, 21))),
        (2, 0, on_line((10, 100, 101), (11, 110, 111), (12, 120, 121))),
        (3, 0, on_line((20, 200, 201, -1), (21, 210, 211, -1), (22, 220, 221, -1))),
    ), most=6)


def square():
    """A tree on two axes: page 1 near (0, 0), page 2 near (50, 0), page 3 near (50, 50)."""
    rows = []
    for number, left, low in ((1, 0, 0), (2, 50, 0), (3, 50, 50)):
        items = [(10 * number + at, ((left + at, left + at), (low + at, low + at)), (1, 0)) for at in range(3)]
        rows.append((number, 0, items))
    return Tree.from_pages(2, ((9, 1, (1, 2, 3)), *rows), most=6)


def crossing():
    """A tree on two axes whose page 2 passes by: it is where it meets on axis 0 before it does on axis 1."""
    near = [(at, ((at, at), (at, at)), (0, 0)) for at in range(3)]
    far = [(10 + at, ((90 + at, 90 + at), (190 + at, 190 + at)), (-1, -1)) for at in range(3)]
    return Tree.from_pages(2, ((9, 1, (1, 2)), (1, 0, near), (2, 0, far)), most=6)


def grown(rng, axes, many, most=6, room=20, width=3, fastest=1):
    """A tree whose items were put one by one, some turned and some dropped."""
    tree = Tree(axes, most=most)
    for key in rng.sample(range(1000), many):
        tree.put(key, small_box(rng, axes, room, width), speed=speed_of(rng, axes, fastest))
    for key, *_ in tree.all_items()[::7]:
        tree.turn(key, 2, speed=speed_of(rng, axes, fastest))
    for key, *_ in tree.all_items()[::9]:
        tree.drop(key)
    return tree


def clustered(rng, axes, many, most=6, room=20):
    """A tree with narrow pages: its items stand in small groups that move alike."""
    items, key = [], 0
    while len(items) < many:
        middle = small_box(rng, axes, room, 0)
        speed = speed_of(rng, axes, 2)
        for _ in range(rng.randint(3, 6)):
            lows = [low + rng.randint(0, 2) for low, _ in middle]
            items.append((key, tuple((low, low + rng.randint(0, 1)) for low in lows), speed))
            key += 1
    return Tree.packed(axes, items[:many], most=most)


def convoys(rng, axes, pages):
    """A tree whose pages are narrow and far apart, each with a speed of its own."""
    rows, kids = [], tuple(sorted(rng.sample(range(999), pages)))
    for number in kids:
        middle, speed = small_box(rng, axes, 20, 0), speed_of(rng, axes, 2)
        items = []
        for at in range(rng.randint(3, 6)):
            lows = [low + rng.randint(0, 1) for low, _ in middle]
            items.append((10 * number + at, tuple((low, low) for low in lows), speed))
        rows.append((number, 0, tuple(items)))
    return Tree.from_pages(axes, ((999, 1, kids), *rows), most=6)


def trees(rng, many_of_each):
    """Trees of all numbers of axes: grown, packed, given by their rows, lone pages and empty ones."""
    for _ in range(many_of_each):
        for axes in (1, 2, 3, 4):
            yield grown(rng, axes, rng.choice((12, 30, 60)))
            yield clustered(rng, axes, rng.choice((14, 40, 80)), most=rng.choice((6, 8, 12)))
            yield convoys(rng, axes, rng.randint(2, 6))
            held = Tree.packed(axes, items_of(rng, axes, 25, room=15, width=2, most=0), most=7)
            yield Tree.from_pages(axes, held.pages(), most=7)
            yield Tree.packed(axes, items_of(rng, axes, rng.randint(1, 6), room=15))
        yield Tree(rng.randint(1, 4))


def other_items(rng, items, fresh):
    """As many items within the same bounds, with keys from fresh on."""
    axes = range(len(items[0][1]))
    keys = [fresh + at for at in range(len(items))]
    pairs = [rng.sample([item[1][axis] for item in items], len(items)) for axis in axes]
    rates = [rng.sample([item[2][axis] for item in items], len(items)) for axis in axes]
    return tuple(
        (key, tuple(pairs[axis][at] for axis in axes), tuple(rates[axis][at] for axis in axes))
        for at, key in enumerate(keys)
    )


def twin_of(rng, tree, lot):
    """A tree with the same pages but that all leaf pages outside of the lot have other items."""
    rows, fresh = [], 10 ** 6
    lone = len(tree.pages()) == 1
    for number, level, entries in tree.pages():
        if level == 0 and number not in lot:
            if lone:
                entries = tuple(sorted(items_of(rng, tree.axes, rng.randint(0, tree.most), room=25)))
            else:
                entries = other_items(rng, entries, fresh)
                fresh += 100
        rows.append((number, level, entries))
    return Tree.from_pages(tree.axes, rows, most=tree.most)
