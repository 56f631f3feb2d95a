"""Stores: a tree on a disk, one cell for each leaf page, which survives crashes; and views of it.

Two cells hold records by turns; the valid one with the greater sequence number is in force. A
commit writes the leaf pages that changed to cells that no record in force and no view needs,
and only when these are durable the record that tells where they are.
"""

from boundstead.asking import answer, answer_from, pages_read
from boundstead.errors import BadValue, Closed, NoPage, NoStore, TakenDisk
from boundstead.kinds import is_axes, is_integer, is_most
from boundstead.questions import is_question
from boundstead.records import numbers_in, parsed_record, record_text, words_of
from boundstead.trees import Tree

RECORD_CELLS = (0, 1)
FIRST_CELL = 2
LAST_CELL = 999


def page_text(items):
    """The text of a leaf page: a line for each item, of its key, lows and highs, and speeds."""
    lines = []
    for key, box, speed in items:
        ends = [end for pair in box for end in pair]
        lines.append(words_of([key, *ends, *speed]) + "\n")
    return "".join(lines)


def items_in(text):
    """The items, by ascending key, of the leaf page whose cell holds the text."""
    items = []
    for line in text.split("\n")[:-1]:
        key, *numbers = numbers_in(line)
        axes = len(numbers) // 3
        box = tuple([(numbers[2 * axis], numbers[2 * axis + 1]) for axis in range(axes)])
        items.append((key, box, tuple(numbers[2 * axes:])))
    return tuple(items)


def newest_record(disk):
    """The record that is in force, or None if the disk holds no store."""
    found = [parsed_record(disk.read(cell)) for cell in RECORD_CELLS]
    records = [record for record in found if record is not None]
    return max(records) if records else None


def write_state(disk, sequence, tree, cells, changed):
    """Write the leaf pages with the changed numbers to their cells, and then the record of the tree."""
    for number, level, entries in tree.pages():
        if level == 0 and number in changed:
            disk.write(cells[number], page_text(entries))
    disk.sync()
    disk.write(RECORD_CELLS[sequence % 2], record_text(sequence, tree, cells))
    disk.sync()


def changed_leaves(tree, old):
    """The numbers of the leaf pages of the tree that the old tree has not, or not with the same items."""
    rows = {number: (level, entries) for number, level, entries in old.pages()}
    return [number for number, level, entries in tree.pages() if level == 0 and rows.get(number) != (0, entries)]


def ask_cells(disk, tree, cells, question):
    """The answer for a tree whose leaf pages are in these cells; exactly the needed ones are read."""
    items = {}
    for number in pages_read(tree, question):
        items[number] = items_in(disk.read(cells[number]))
    return answer_from(tree, question, items)


def cell_of(cells, number):
    """The cell of the leaf page with the number."""
    if not is_integer(number) or number not in cells:
        raise NoPage(number)
    return cells[number]


class View:
    """What a store held when the view was taken."""

    def __init__(self, disk, tree, held, place):
        self._disk = disk
        self._tree = tree
        # The store's own dict of what open views hold: cells of leaf pages by their numbers.
        self._held = held
        self._place = place

    def tree(self):
        """A tree equal to the one that is viewed."""
        return self._open_tree().copy()

    def ask(self, question):
        """The answer for the tree that is viewed."""
        tree = self._open_tree()
        if not is_question(tree.axes, question):
            raise BadValue(0)
        return ask_cells(self._disk, tree, self._held[self._place], question)

    def cell(self, number):
        """The cell that holds a leaf page of the tree that is viewed."""
        self._open_tree()
        return cell_of(self._held[self._place], number)

    def close(self):
        """Let the store use the view's cells again."""
        self._held.pop(self._place, None)

    def _open_tree(self):
        """The tree that is viewed; Closed after the view was closed."""
        if self._place not in self._held:
            raise Closed()
        return self._tree


class Store:
    """A tree that is changed by deeds, and kept on a disk by commits."""

    def __init__(self, disk, sequence, tree, cells):
        self._disk = disk
        # The committed state: the number of its record, its tree, which is never changed,
        # and the cells of its leaf pages by their numbers.
        self._sequence = sequence
        self._saved = tree
        self._cells = cells
        self._working = tree.copy()
        self._is_clean = True
        self._held = {}
        self._views = 0

    @staticmethod
    def created(disk, axes, *, most=8):
        """A new store without items on a disk that holds none."""
        if not is_axes(axes):
            raise BadValue(1)
        if not is_most(most):
            raise BadValue(2)
        if newest_record(disk) is not None:
            raise TakenDisk()
        tree = Tree(axes, most=most)
        cells = {tree.root: FIRST_CELL}
        write_state(disk, 1, tree, cells, [tree.root])
        return Store(disk, 1, tree, cells)

    @staticmethod
    def opened(disk):
        """The store that the disk holds, in its committed state."""
        record = newest_record(disk)
        if record is None:
            raise NoStore()
        sequence, axes, most, rows = record
        cells = {number: entries[0] for number, level, entries in rows if level == 0}
        pages = []
        for number, level, entries in rows:
            pages.append((number, level, items_in(disk.read(cells[number])) if level == 0 else entries))
        return Store(disk, sequence, Tree.from_pages(axes, pages, most=most), cells)

    def put(self, key, box, *, speed=None):
        """Add an item to the working state; without a speed it rests."""
        self._working.put(key, box, speed=speed)
        self._is_clean = False

    def drop(self, key):
        """Remove an item from the working state."""
        self._working.drop(key)
        self._is_clean = False

    def turn(self, key, time, *, speed):
        """Give an item of the working state a new speed, with the same place at the time."""
        self._working.turn(key, time, speed=speed)
        self._is_clean = False

    def tree(self):
        """A tree equal to the working state."""
        return self._working.copy()

    def ask(self, question):
        """The answer for the working state."""
        if not is_question(self._working.axes, question):
            raise BadValue(0)
        if self._is_clean:
            return ask_cells(self._disk, self._saved, self._cells, question)
        return answer(self._working, question)

    def changed(self):
        """Whether the working state is not equal to the committed one."""
        return self._working != self._saved

    def commit(self):
        """Let the working state become the committed one, which is durable then."""
        if self.changed():
            tree = self._working.copy()
            changed = changed_leaves(tree, self._saved)
            cells = self._new_cells(tree, changed)
            write_state(self._disk, self._sequence + 1, tree, cells, changed)
            self._sequence = self._sequence + 1
            self._saved = tree
            self._cells = cells
        self._is_clean = True

    def rollback(self):
        """Let the committed state become the working one."""
        self._working = self._saved.copy()
        self._is_clean = True

    def cell(self, number):
        """The cell that holds a leaf page of the committed state."""
        return cell_of(self._cells, number)

    def view(self):
        """A view of the committed state."""
        self._views = self._views + 1
        self._held[self._views] = self._cells
        return View(self._disk, self._saved, self._held, self._views)

    def _new_cells(self, tree, changed):
        """The cells of the tree's leaf pages: free ones for those that changed."""
        taken = {}
        for cells in [self._cells] + list(self._held.values()):
            taken.update({cell: True for cell in cells.values()})
        # There are cells for fifteen trees of 66 leaf pages each, the most that 200 items can have.
        free = [cell for cell in range(FIRST_CELL, LAST_CELL + 1) if cell not in taken]
        places = {number: self._cells[number] for number, _, _ in tree.directory() if number not in changed}
        for number, cell in zip(changed, free):
            places[number] = cell
        return places
