"""A tree that follows [34] to [41] word by word, with everything worked out anew each time."""

import naive


class ModelPage:
    """A page whose entries are items, or the pages below it."""

    def __init__(self, number, level, entries):
        self.number = number
        self.level = level
        self.entries = entries

    def below(self):
        """This page and all pages below it, each before its kids."""
        if self.level == 0:
            return [self]
        return [self] + [page for kid in self.in_order() for page in kid.below()]

    def in_order(self):
        """The entries: items by key, kids by number."""
        return sorted(self.entries, key=lambda entry: entry.number if self.level else entry[0])

    def items(self):
        """All items at or below the page."""
        if self.level == 0:
            return list(self.entries)
        return [item for kid in self.entries for item in kid.items()]

    def bounds(self):
        return naive.bounds_of(self.items())

    def row(self):
        entries = tuple(entry.number if self.level else entry for entry in self.in_order())
        return (self.number, self.level, entries)


class ModelTree:
    """The tree; its arguments are taken to be right."""

    def __init__(self, axes, most=8):
        self.axes, self.most = axes, most
        self.top = ModelPage(0, 0, [])

    @classmethod
    def of_rows(cls, axes, rows, most):
        tree = cls(axes, most)
        pages = {number: ModelPage(number, level, list(entries)) for number, level, entries in rows}
        for page in pages.values():
            if page.level:
                page.entries = [pages[number] for number in page.entries]
        tree.top = pages[rows[0][0]]
        return tree

    def pages(self):
        return tuple(page.row() for page in self.top.below())

    def free(self):
        taken = {page.number for page in self.top.below()}
        return min(number for number in range(1000) if number not in taken)

    def parent(self, page):
        for other in self.top.below():
            if other.level and page in other.entries:
                return other
        return None

    def leaf_of(self, key):
        for page in self.top.below():
            if page.level == 0 and any(item[0] == key for item in page.entries):
                return page

    def item(self, key):
        return next(item for item in self.leaf_of(key).entries if item[0] == key)

    def split(self, page):
        entries = page.in_order()
        bounds = [entry.bounds() if page.level else naive.bounds_of([entry]) for entry in entries]
        one, other = naive.best_split(bounds, self.most // 2)
        parent = self.parent(page)
        added = ModelPage(self.free(), page.level, [entries[at] for at in other])
        page.entries = [entries[at] for at in one]
        if parent is not None:
            parent.entries.append(added)
            return
        # The root itself: both of its pages count as taken when the new root gets its number.
        self.top = ModelPage(None, page.level + 1, [page, added])
        taken = {page.number for page in self.top.below()}
        self.top.number = min(number for number in range(1000) if number not in taken)

    def put(self, key, box, speed=None):
        item = (key, box, speed or (0,) * self.axes)
        page = self.top
        while page.level:
            kids = page.in_order()
            page = kids[naive.best_kid([kid.bounds() for kid in kids], naive.bounds_of([item]))]
        page.entries.append(item)
        while page is not None and len(page.entries) > self.most:
            self.split(page)
            page = self.parent(page)

    def drop(self, key):
        page = self.leaf_of(key)
        page.entries = [item for item in page.entries if item[0] != key]
        while page is not self.top and len(page.entries) < self.most // 2:
            parent = self.parent(page)
            others = sorted(
                (naive.reach(naive.joined(page.bounds(), kid.bounds())), kid.number)
                for kid in parent.entries if kid is not page
            )
            mate = next(kid for kid in parent.entries if kid.number == others[0][1])
            kept, gone = sorted((page, mate), key=lambda each: each.number)
            kept.entries = kept.entries + gone.entries
            parent.entries.remove(gone)
            if len(kept.entries) > self.most:
                self.split(kept)
            page = parent
        while self.top.level and len(self.top.entries) == 1:
            self.top = self.top.entries[0]

    def turn(self, key, time, speed):
        _, box, old = self.item(key)
        box = tuple(
            (low + (before - after) * time, high + (before - after) * time)
            for (low, high), before, after in zip(box, old, speed)
        )
        self.drop(key)
        self.put(key, box, speed)


def flaws_of(tree, items):
    """What is wrong with the shape of a tree that should have exactly these items. [34] [35] [40]"""
    rows = tree.pages()
    levels = {number: level for number, level, _ in rows}
    entries = {number: within for number, _, within in rows}
    flaws = []

    def ask(holds, flaw):
        if not holds:
            flaws.append(flaw)

    ask(len(levels) == len(rows), "numbers")
    ask(rows[0][0] == tree.root, "root")
    ask(all(0 <= number <= 999 for number in levels), "range of numbers")
    kids = [kid for number in levels if levels[number] for kid in entries[number]]
    ask(sorted(kids) == sorted(number for number in levels if number != tree.root), "kids")
    ask(rows == ModelTree.of_rows(tree.axes, rows, tree.most).pages(), "order of rows")
    for number, level, within in rows:
        ask(len(within) <= tree.most, "too many")
        least = tree.most // 2 if number != tree.root else 2 if level else 0
        ask(len(within) >= least, "too few")
        ask(all(levels[kid] == level - 1 for kid in within) if level else True, "levels")
    held = [item for number in levels if not levels[number] for item in entries[number]]
    ask(sorted(held) == sorted(items), "items")
    ask(tree.all_items() == tuple(sorted(items)), "all_items")
    ask(len({item[0] for item in held}) == len(held) == len(tree) <= 200, "keys")
    return flaws


def known_of(tree):
    """What is known of each page, from the rows alone. [40]"""
    rows = tree.pages()
    model = ModelTree.of_rows(tree.axes, rows, tree.most)
    if len(rows) == 1:
        return {tree.root: (None, ((-1000000, 1000000, -100, 100),) * tree.axes)}
    return {page.number: (len(page.items()), page.bounds()) for page in model.top.below()}
