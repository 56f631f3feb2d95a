"""Trees: items kept in pages, which are split and merged by fixed rules."""

from boundstead.boxes import is_box
from boundstead.errors import BadValue, NoItem, NoPage, OutOfRange, TakenKey, TooMany
from boundstead.items import bounds_of, is_box_of, is_item_of, is_speed_of, joined, plain_item, reach, widest
from boundstead.kinds import MOST_ITEMS, is_axes, is_integer, is_key, is_most, is_sequence, is_time
from boundstead.moments import place_at
from boundstead.packing import packed_rows
from boundstead.rows import checked_rows
from boundstead.splits import best_kid, best_split


def are_items(axes, value):
    """Whether value is a sequence of items that a tree of so many axes may have."""
    if not is_sequence(value) or len(value) > MOST_ITEMS:
        return False
    if not all([is_item_of(axes, item) for item in value]):
        return False
    return len(set([item[0] for item in value])) == len(value)


class Tree:
    """A table of items, kept in pages with numbers."""

    def __init__(self, axes, *, most=8):
        if not is_axes(axes):
            raise BadValue(0)
        if not is_most(most):
            raise BadValue(1)
        self._axes = axes
        self._most = most
        self._fill([(0, 0, ())])

    @staticmethod
    def from_pages(axes, pages, *, most=8):
        """The tree whose pages() are these rows."""
        if not is_axes(axes):
            raise BadValue(0)
        if not is_most(most):
            raise BadValue(2)
        rows = checked_rows(axes, pages, most)
        tree = Tree(axes, most=most)
        tree._fill(rows)
        return tree

    @staticmethod
    def packed(axes, items, *, most=8):
        """A tree with these items and as few leaf pages as hold them."""
        if not is_axes(axes):
            raise BadValue(0)
        if not are_items(axes, items):
            raise BadValue(1)
        if not is_most(most):
            raise BadValue(2)
        tree = Tree(axes, most=most)
        tree._fill(packed_rows([plain_item(item) for item in items], most))
        return tree

    @property
    def axes(self):
        """The number of axes."""
        return self._axes

    @property
    def most(self):
        """The greatest number of entries of a page."""
        return self._most

    @property
    def root(self):
        """The number of the root page."""
        return self._root

    def __len__(self):
        return len(self._homes)

    def __contains__(self, value):
        return is_integer(value) and value in self._homes

    def __eq__(self, other):
        return (
            isinstance(other, Tree) and self._axes == other._axes and self._most == other._most
            and self._root == other._root and self._levels == other._levels and self._entries == other._entries
        )

    def put(self, key, box, *, speed=None):
        """Add an item; without a speed it rests."""
        if not is_key(key):
            raise BadValue(0)
        if not is_box_of(self._axes, box):
            raise BadValue(1)
        if speed is not None and not is_speed_of(self._axes, speed):
            raise BadValue(2)
        if key in self._homes:
            raise TakenKey(key)
        if len(self._homes) >= MOST_ITEMS:
            raise TooMany("items")
        rates = [0 for _ in box] if speed is None else speed
        self._add(plain_item((key, box, rates)))

    def drop(self, key):
        """Remove an item."""
        number = self._home(key)
        del self._homes[key]
        self._entries[number] = tuple([item for item in self._entries[number] if item[0] != key])
        self._refresh(number)
        while number != self._root and len(self._entries[number]) < self._most // 2:
            number = self._merge(number)
        while self._levels[self._root] > 0 and len(self._entries[self._root]) == 1:
            self._drop_root()

    def turn(self, key, time, *, speed):
        """Give an item a new speed, with the same place at the time."""
        if not is_key(key):
            raise BadValue(0)
        if not is_time(time):
            raise BadValue(1)
        if not is_speed_of(self._axes, speed):
            raise BadValue(2)
        _, box, rates = self.item(key)
        changes = [old - new for old, new in zip(rates, speed)]
        moved = place_at(box, changes, time)
        if not is_box(moved):
            raise OutOfRange(key)
        self.drop(key)
        self._add((key, moved, tuple(speed)))

    def item(self, key):
        """The item with the key."""
        number = self._home(key)
        return [item for item in self._entries[number] if item[0] == key][0]

    def all_items(self):
        """All items, by ascending key."""
        items = []
        for number, level in self._levels.items():
            if level == 0:
                items.extend(self._entries[number])
        return tuple(sorted(items))

    def pages(self):
        """The rows (number, level, entries) of all pages, each before those of its kids."""
        rows = []
        due = [self._root]
        while due:
            number = due.pop()
            level = self._levels[number]
            entries = self._entries[number]
            rows.append((number, level, entries))
            if level > 0:
                due.extend(entries[::-1])
        return tuple(rows)

    def known(self, number):
        """The number and the bounds of the items at or below a page, as the pages above it tell."""
        if not is_integer(number) or number not in self._levels:
            raise NoPage(number)
        if len(self._levels) == 1:
            return (None, widest(self._axes))
        return self._facts[number]

    def directory(self):
        """What is known of each leaf page: (number, count, bounds), by ascending number."""
        rows = []
        for number in sorted(self._levels):
            if self._levels[number] == 0:
                count, bounds = self.known(number)
                rows.append((number, count, bounds))
        return tuple(rows)

    def copy(self):
        """An equal tree, which changes independently."""
        tree = Tree(self._axes, most=self._most)
        tree._fill(self.pages())
        return tree

    def _fill(self, rows):
        """Take the pages of these rows, of which the root's comes first, and each before its kids'."""
        self._root = rows[0][0]
        self._levels = {}
        self._entries = {}
        self._parents = {self._root: None}
        self._homes = {}
        self._facts = {}
        for number, level, entries in reversed(rows):
            self._set_page(number, level, entries)

    def _set_page(self, number, level, entries):
        """Give a page these entries, whose own pages, if they are kids, are there already."""
        self._levels[number] = level
        self._entries[number] = entries
        for entry in entries:
            if level > 0:
                self._parents[entry] = number
            else:
                self._homes[entry[0]] = number
        self._facts[number] = self._worked_out(number)

    def _worked_out(self, number):
        """The number and the bounds of the items at or below a page, from its entries."""
        entries = self._entries[number]
        if self._levels[number] == 0:
            return (len(entries), bounds_of(entries) if entries else None)
        count, bounds = self._facts[entries[0]]
        for kid in entries[1:]:
            more, other = self._facts[kid]
            count = count + more
            bounds = joined(bounds, other)
        return (count, bounds)

    def _refresh(self, number):
        """Work out anew what is known of a page and of all pages above it."""
        while number is not None:
            self._facts[number] = self._worked_out(number)
            number = self._parents[number]

    def _home(self, key):
        """The number of the leaf page that has the item with the key."""
        if not is_key(key):
            raise BadValue(0)
        if key not in self._homes:
            raise NoItem(key)
        return self._homes[key]

    def _add(self, item):
        """Put the item on the leaf page that is due, and split what gets too large."""
        bounds = bounds_of([item])
        number = self._root
        while self._levels[number] > 0:
            kids = self._entries[number]
            number = kids[best_kid([self._facts[kid][1] for kid in kids], bounds)]
        self._set_page(number, 0, tuple(sorted([*self._entries[number], item])))
        self._refresh(number)
        while len(self._entries[number]) > self._most:
            self._split(number)
            number = self._parents[number]

    def _split(self, number):
        """Divide the entries of a page between it and a new page beside it."""
        level = self._levels[number]
        entries = self._entries[number]
        hulls = [self._facts[entry][1] if level > 0 else bounds_of([entry]) for entry in entries]
        stay, leave = best_split(hulls, self._most // 2)
        added = self._free_number()
        self._set_page(number, level, tuple([entries[at] for at in stay]))
        self._set_page(added, level, tuple([entries[at] for at in leave]))
        if number == self._root:
            self._add_root()
        # What is known of the pages above the parent stays the same.
        parent = self._parents[number]
        self._set_page(parent, self._levels[parent], tuple(sorted([*self._entries[parent], added])))

    def _free_number(self):
        """The least number that no page has."""
        number = 0
        while number in self._levels:
            number = number + 1
        return number

    def _add_root(self):
        """Put a new root above the root."""
        top = self._free_number()
        self._set_page(top, self._levels[self._root] + 1, (self._root,))
        self._parents[top] = None
        self._root = top

    def _drop_root(self):
        """Let the only kid of the root take its place."""
        old = self._root
        self._root = self._entries[old][0]
        self._forget(old)
        self._parents[self._root] = None

    def _forget(self, number):
        """Make the number of a page free, whose entries have gone to another one."""
        del self._levels[number]
        del self._entries[number]
        del self._parents[number]
        del self._facts[number]

    def _mate(self, number):
        """The page with which a page is merged."""
        own = self._facts[number][1]
        kids = [kid for kid in self._entries[self._parents[number]] if kid != number]
        return min([(reach(joined(own, self._facts[kid][1])), kid) for kid in kids])[1]

    def _merge(self, number):
        """Merge a page that has too few entries with its mate; the number of their parent."""
        parent = self._parents[number]
        mate = self._mate(number)
        kept = min(number, mate)
        gone = max(number, mate)
        entries = tuple(sorted([*self._entries[kept], *self._entries[gone]]))
        self._set_page(kept, self._levels[kept], entries)
        self._forget(gone)
        self._set_page(parent, self._levels[parent], tuple([kid for kid in self._entries[parent] if kid != gone]))
        if len(entries) > self._most:
            self._split(kept)
        return parent
