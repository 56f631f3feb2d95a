"""Stores: what they keep, what they read and write. [6] [7] [60] [61]"""

import copy
import random
import unittest

from disk_helpers import TracedDisk, changed_pages, deed_of, do, outcome, same_texts, texts_of
from groves import NO_QUESTIONS
from helpers import as_lists, is_plain, mixed
from makers import KINDS, items_of, question_of, small_box, speed_of
from model import flaws_of

from boundstead.asking import answer, pages_read
from boundstead.disks import Disk
from boundstead.errors import BadValue, NoItem, NoPage, NoStore, OutOfRange, SpatialError, TakenDisk, TakenKey, TooMany
from boundstead.stores import Store, View, items_in
from boundstead.trees import Tree

WRONG_AXES = (0, 5, -1, True, None, "1", (1,), [], 10 ** 30)
WRONG_MOST = (5, 13, 0, -6, True, None, "8", (8,), 10 ** 30)


def filled(axes=2, many=40, most=6, seed=1, made=TracedDisk):
    """A disk and a store with so many items, committed."""
    rng = random.Random(seed)
    disk = made()
    store = Store.created(disk, axes, most=most)
    for key, box, speed in items_of(rng, axes, many, room=40):
        store.put(key, box, speed=speed)
    store.commit()
    disk.forget()
    if made is TracedDisk:
        disk.counts()
    return disk, store


class StoreTest(unittest.TestCase):
    def error(self, kind, values, call, *args, **named):
        with self.assertRaises(SpatialError) as caught:
            call(*args, **named)
        self.assertIs(type(caught.exception), kind)
        self.assertEqual(list(vars(caught.exception).values()), values)

    def check_asks(self, rng, disk, asked, tree, each=1):
        """Ask questions of each kind; exactly the cells of the needed pages are read, each once."""
        for kind in KINDS:
            for _ in range(each):
                question = question_of(rng, tree.axes, kind, room=40, last=5)
                shape = rng.choice((tuple, as_lists, mixed))
                disk.forget()
                trace = list(disk.trace)
                found = asked.ask(shape(question))
                self.assertEqual(found, answer(tree, question))
                self.assertTrue(is_plain(found))
                cells = sorted(asked.cell(number) for number in pages_read(tree, question))
                self.assertEqual(sorted(disk.reads()), cells, (tree.pages(), question))
                self.assertEqual((disk.writes(), disk.trace), ((), trace))

    def check_cells(self, disk, store):
        """Each leaf page of the committed state has a cell of its own, which holds its items."""
        tree = store.tree()
        disk.forget()
        cells = {number: store.cell(number) for number, level, _ in tree.pages() if level == 0}
        self.assertEqual((disk.reads(), disk.writes()), ((), ()))
        self.assertEqual(len(set(cells.values())), len(cells))
        texts = texts_of(disk, cells.values())
        for number, level, entries in tree.pages():
            if level == 0:
                self.assertTrue(0 <= cells[number] < 1000)
                found = items_in(texts[cells[number]])
                self.assertEqual(found, entries)
                self.assertTrue(is_plain(found))

    def check_opened(self, disk, tree):
        """The store that is opened has the tree, after few reads."""
        disk.forget()
        store = Store.opened(disk)
        leaves = len(tree.directory())
        self.assertLessEqual(len(disk.reads()), leaves + 4)
        self.assertLess(max(disk.reads()), 1000)
        self.assertEqual((disk.writes(), disk.pending()), ((), 0))
        self.assertEqual((store.tree(), store.tree().pages(), store.changed()), (tree, tree.pages(), False))
        return store


class CreatedAndOpenedTest(StoreTest):
    def test_new_stores(self):
        for axes in (1, 2, 3, 4):
            for most in (6, 8, 12):
                disk = TracedDisk()
                store = Store.created(disk, axes, most=most)
                self.assertIsInstance(store, Store)
                self.assertEqual(store.tree(), Tree(axes, most=most))
                self.assertIs(store.changed(), False)
                self.assertEqual(disk.pending(), 0)
                self.assertLess(max(disk.writes() + disk.reads()), 1000)
                writes, _ = disk.counts()
                self.assertLessEqual(writes, 6)
                self.check_cells(disk, store)
                self.check_opened(disk, Tree(axes, most=most))
                self.check_opened(same_texts(disk), Tree(axes, most=most))
        self.assertEqual(Store.created(Disk(), 3).tree(), Tree(3))
        self.assertEqual(Store.created(axes=3, most=7, disk=Disk()).tree(), Tree(3, most=7))

    def test_wrong_values_and_disks(self):
        taken = Disk()
        Store.created(taken, 2)
        for disk in (Disk(), taken):
            for axes in WRONG_AXES:
                for most in (6, None):
                    self.error(BadValue, [1], Store.created, disk, axes, most=most)
            for most in WRONG_MOST:
                self.error(BadValue, [2], Store.created, disk, 1, most=most)
        before = texts_of(taken)
        taken.forget()
        for axes in (1, 2):
            self.error(TakenDisk, [], Store.created, taken, axes)
        self.assertEqual((texts_of(taken), taken.writes(), taken.pending()), (before, (), 0))
        self.check_opened(taken, Tree(2))
        empty = Disk()
        for _ in range(2):
            self.error(NoStore, [], Store.opened, empty)
        self.error(NoStore, [], Store.opened, disk=empty)
        self.assertEqual(empty.writes(), ())
        self.check_opened(taken, Store.created(empty, 2).tree())

    def test_a_disk_with_a_long_story_is_taken(self):
        disk, store = filled()
        self.error(TakenDisk, [], Store.created, disk, 2)
        store.drop(store.tree().all_items()[0][0])
        store.commit()
        self.error(TakenDisk, [], Store.created, disk, 2)
        self.error(TakenDisk, [], Store.created, same_texts(disk), 1, most=6)

    def test_opened_has_the_committed_state(self):
        for axes in (1, 2, 3, 4):
            for many in (0, 1, 8, 9, 60, 200):
                disk, store = filled(axes, many, 8, seed=many)
                tree = store.tree()
                store.put(10 ** 9, ((0, 0),) * axes) if many < 200 else store.drop(tree.all_items()[3][0])
                found = self.check_opened(disk, tree)
                self.check_cells(disk, found)
                other = same_texts(disk)
                self.check_cells(other, self.check_opened(other, tree))
                self.assertIs(type(found), Store)

    def test_the_largest_pages(self):
        # The longest numbers on four axes, and twelve items on a page.
        longest = [(1000000000 - key, ((-1000000, -1000000),) * 4, (-100,) * 4) for key in range(200)]
        disk = TracedDisk()
        store = Store.created(disk, 4, most=12)
        for key, box, speed in longest:
            store.put(key, box, speed=speed)
            if key % 7 == 0:
                store.commit()
        store.commit()
        self.assertLessEqual(max(map(len, texts_of(disk).values())), 2000)
        self.check_cells(disk, store)
        self.check_opened(disk, store.tree())
        disk = TracedDisk()
        store = Store.created(disk, 4, most=12)
        for key, box, speed in longest[:12]:
            store.put(key, box, speed=speed)
        store.commit()
        self.check_cells(disk, store)
        self.assertEqual(len(items_in(texts_of(disk)[store.cell(0)])), 12)

    def test_the_most_pages(self):
        # Leaf pages of three items each, as many as there can be.
        disk, store = TracedDisk(), None
        store = Store.created(disk, 1, most=6)
        for key in range(200):
            store.put(key, ((10 * key, 10 * key),))
        store.commit()
        self.assertGreater(len(store.tree().directory()), 60)
        self.check_cells(disk, store)
        self.check_opened(disk, store.tree())


class DeedsTest(StoreTest):
    def test_as_those_of_a_tree(self):
        rng = random.Random(61)
        refused = {}
        for axes in (1, 2, 4):
            disk = TracedDisk()
            store, tree = Store.created(disk, axes, most=6), Tree(axes, most=6)
            disk.forget()
            disk.counts()
            for _ in range(150):
                deed = deed_of(rng, tree, most=80)
                if rng.random() < 0.3:
                    deed = rng.choice((
                        ("put", deed[1], ((0, 1),) * axes, None), ("put", True, None, None), ("put", 1, ((1, 0),), "x"),
                        ("put", 5, ((0, 1),) * axes, (101,) * axes), ("drop", rng.randint(0, 99)), ("drop", "1"),
                        ("turn", deed[1], 1001, None), ("turn", deed[1], 1000, (100,) * axes), ("turn", -1, 0, (0,)),
                        ("turn", rng.randint(0, 99), 5, (1,) * axes), ("turn", deed[1], 0, (0,) * (axes + 1)),
                    ))
                told = outcome(tree, deed)
                self.assertEqual(outcome(store, deed), told, deed)
                self.assertEqual(store.tree(), tree)
                self.assertIs(store.changed(), tree != Tree(axes, most=6))
                if told:
                    refused[(told[0], *told[1].values())] = True
            self.assertEqual((disk.reads(), disk.trace), ((), []))
            self.assertEqual(flaws_of(store.tree(), tree.all_items()), [])
        self.assertGreater(len(refused), 8)
        self.assertTrue({TakenKey, NoItem, BadValue} <= {error for error, *_ in refused})

    def test_arguments(self):
        _, store = filled(1, 0)
        self.assertIsNone(store.put(box=[[1, 2]], key=7, speed=[3]))
        self.assertIsNone(store.put(8, ((5, 5),)))
        self.assertIsNone(store.put(9, ((5, 5),), speed=None))
        self.assertIsNone(store.turn(speed=(-100,), time=0, key=7))
        self.assertEqual(store.tree().all_items(), ((7, ((1, 2),), (-100,)), (8, ((5, 5),), (0,)), (9, ((5, 5),), (0,))))
        self.assertIsNone(store.drop(key=8))
        self.assertNotIn(8, store.tree())
        with self.assertRaises(TypeError):
            store.put(1, ((0, 0),), (0,))
        with self.assertRaises(TypeError):
            store.turn(7, 0, (0,))

    def test_out_of_range_and_too_many(self):
        _, store = filled(1, 200)
        self.error(TooMany, ["items"], store.put, 5000, ((0, 0),))
        store.drop(store.tree().all_items()[0][0])
        store.put(5000, ((1000000, 1000000),), speed=(100,))
        self.error(OutOfRange, [5000], store.turn, 5000, 1, speed=(99,))
        self.error(TooMany, ["items"], store.put, 5001, ((0, 0),))
        self.error(TakenKey, [5000], store.put, 5000, ((0, 0),))

    def test_trees_are_independent(self):
        disk, store = filled()
        tree = store.tree()
        kept = tree.copy()
        tree.drop(tree.all_items()[0][0])
        self.assertEqual(store.tree(), kept)
        self.assertIs(store.changed(), False)
        store.drop(kept.all_items()[5][0])
        self.assertEqual(len(tree), len(kept) - 1)
        again = store.tree()
        store.rollback()
        self.assertEqual(len(again), len(kept) - 1)
        self.assertEqual(store.tree(), kept)
        box, speed = [[1, 2], [3, 4]], [5, 6]
        store.put(10 ** 6, box, speed=speed)
        box[0][0] = speed[0] = -9
        self.assertEqual(store.tree().item(10 ** 6), (10 ** 6, ((1, 2), (3, 4)), (5, 6)))

    def test_deeds_that_undo_each_other(self):
        _, store = filled(1, 3)
        key, box, speed = store.tree().all_items()[1]
        self.assertIs(store.changed(), False)
        store.drop(key)
        self.assertIs(store.changed(), True)
        store.put(key, box, speed=speed)
        self.assertIs(store.changed(), False)
        store.turn(key, 5, speed=speed)
        self.assertIs(store.changed(), False)
        store.put(5 * 10 ** 5, ((0, 0),))
        store.commit()
        self.assertIs(store.changed(), False)
        store.drop(5 * 10 ** 5)
        store.rollback()
        self.assertIs(store.changed(), False)
        # The items are the same, and it is the pages that count.
        disk, store = filled(1, 7)
        items = store.tree().all_items()
        for item in items[2:]:
            store.drop(item[0])
        for key, box, speed in items[:1:-1]:
            store.put(key, box, speed=speed)
        self.assertEqual(store.tree().all_items(), items)
        self.assertIs(store.changed(), store.tree() != Store.opened(disk).tree())


class CommitTest(StoreTest):
    def commit(self, disk, store, before):
        """Commit, with few writes and syncs; whether there were any writes."""
        tree = store.tree()
        many = changed_pages(before, tree)
        self.assertIs(store.changed(), before != tree)
        disk.forget()
        disk.counts()
        self.assertIsNone(store.commit())
        self.assertEqual((disk.pending(), disk.reads()), (0, ()))
        writes, syncs = disk.counts()
        self.assertLessEqual(writes, many + 2 if before != tree else 0)
        self.assertLessEqual(syncs, many + 2)
        self.assertTrue(all(cell < 1000 for cell in disk.writes()))
        self.assertEqual((store.tree(), store.changed()), (tree, False))
        return writes

    def test_equal_states(self):
        disk, store = filled()
        texts = texts_of(disk)
        for _ in range(3):
            self.assertEqual(self.commit(disk, store, store.tree()), 0)
        key, box, speed = store.tree().all_items()[0]
        before = store.tree()
        store.put(10 ** 7, ((0, 0), (0, 0)))
        store.drop(10 ** 7)
        if store.tree() == before:
            self.assertEqual(self.commit(disk, store, before), 0)
        store.rollback()
        self.assertEqual(self.commit(disk, store, before), 0)
        self.assertEqual(texts_of(disk), texts)

    def test_one_page(self):
        disk, store = filled(1, 40, 8)
        before = store.tree()
        number, _, bounds = next(row for row in before.directory() if row[1] > 4)
        items = next(entries for page, _, entries in before.pages() if page == number)
        store.turn(items[2][0], 0, speed=(items[2][2][0] + 1,))
        many = changed_pages(before, store.tree())
        writes = self.commit(disk, store, before)
        self.assertTrue(1 <= writes <= many + 2)
        self.check_opened(disk, store.tree())

    def test_random_deeds(self):
        rng = random.Random(62)
        sizes = set()
        for axes, most in ((1, 6), (2, 8), (3, 6), (4, 12)):
            disk = TracedDisk()
            store = Store.created(disk, axes, most=most)
            before, tree = store.tree(), store.tree()
            for turn in range(70):
                for _ in range(rng.choice((0, 1, 1, 2, 5, 20))):
                    deed = deed_of(rng, tree, most=90)
                    do(tree, deed)
                    do(store, deed)
                if rng.random() < 0.15:
                    disk.forget()
                    disk.counts()
                    self.assertIsNone(store.rollback())
                    self.assertEqual((disk.trace, disk.reads(), store.changed()), ([], (), False))
                    self.assertEqual(store.tree(), before)
                    tree = before.copy()
                sizes.add(min(9, changed_pages(before, tree)))
                self.commit(disk, store, before)
                self.assertEqual(store.tree(), tree)
                before = tree.copy()
                self.check_cells(disk, store)
                if turn % 7 == 0:
                    self.check_asks(rng, disk, store, tree)
                    other = self.check_opened(disk if turn % 2 else same_texts(disk, TracedDisk), tree)
                    if turn % 2:
                        store = other
        self.assertTrue(sizes >= {0, 1, 2, 3, 4, 9}, sizes)

    def test_growing_and_shrinking(self):
        # Splits up to a root of several levels, and merges down to one empty page.
        disk = TracedDisk()
        store = Store.created(disk, 1, most=6)
        roots = {store.tree().root}
        for key in range(120):
            before = store.tree()
            store.put(key, ((7 * key % 120, 7 * key % 120),))
            self.commit(disk, store, before)
            roots.add(store.tree().root)
        self.check_opened(disk, store.tree())
        levels = store.tree().pages()[0][1]
        for key in range(120):
            before = store.tree()
            store.drop(11 * key % 120)
            self.commit(disk, store, before)
            roots.add(store.tree().root)
            self.check_cells(disk, store)
        self.assertEqual(len(store.tree()), 0)
        self.assertGreaterEqual(levels, 2)
        self.assertGreater(len(roots), 3)
        self.check_opened(disk, store.tree())

    def test_many_puts_at_once(self):
        rng = random.Random(63)
        for axes in (1, 4):
            disk = TracedDisk()
            store = Store.created(disk, axes, most=6)
            before = store.tree()
            for key, box, speed in items_of(rng, axes, 160, room=300):
                store.put(key, box, speed=speed)
            self.commit(disk, store, before)
            self.check_cells(disk, store)
            self.check_opened(disk, store.tree())
            before = store.tree()
            for key, *_ in before.all_items()[:150]:
                store.drop(key)
            self.commit(disk, store, before)
            self.check_opened(disk, store.tree())

    def test_over_a_thousand_commits(self):
        rng = random.Random(64)
        disk = TracedDisk()
        store = Store.created(disk, 2, most=6)
        views = []
        for turn in range(1100):
            before = store.tree()
            for _ in range(rng.choice((1, 1, 3))):
                do(store, deed_of(rng, store.tree(), most=60))
            if turn % 3 == 0 and len(views) < 10:
                views.append((store.view(), before))
            if rng.random() < 0.2 and views:
                view, seen = views.pop(rng.randrange(len(views)))
                self.assertEqual(view.tree(), seen)
                self.check_asks(rng, disk, view, seen) if turn % 20 == 0 else None
                view.close()
            held = {view.cell(number) for view, seen in views for number, _, _ in seen.directory()}
            self.commit(disk, store, before)
            self.assertFalse(held & set(disk.writes()))
            if turn % 100 == 0:
                self.check_opened(same_texts(disk), store.tree())
        self.check_cells(disk, store)
        self.check_opened(disk, store.tree())


class AskTest(StoreTest):
    def test_when_nothing_was_done(self):
        rng = random.Random(65)
        for axes in (1, 2, 3, 4):
            for many in (0, 5, 60):
                disk, store = filled(axes, many, 6, seed=many + axes)
                self.check_asks(rng, disk, store, store.tree(), 3)
                store = Store.opened(disk)
                self.check_asks(rng, disk, store, store.tree(), 3)
                store.put(10 ** 7, ((3, 5),) * axes)
                store.rollback()
                self.check_asks(rng, disk, store, store.tree(), 2)
                store.put(10 ** 7, ((3, 5),) * axes)
                store.commit()
                self.check_asks(rng, disk, store, store.tree(), 2)
        disk = TracedDisk()
        store = Store.created(disk, 2)
        self.check_asks(rng, disk, store, Tree(2), 3)

    def test_after_refused_deeds(self):
        rng = random.Random(66)
        disk, store = filled(2, 40)
        tree = store.tree()
        key = tree.all_items()[0][0]
        for deed in (("put", key, ((0, 0), (0, 0)), None), ("put", -1, None, None), ("drop", 10 ** 8), ("drop", True),
                     ("turn", key, -1, (0, 0)), ("turn", key, 1000, (0, 0, 0)), ("turn", 10 ** 8, 0, (0, 0))):
            self.assertIsNotNone(outcome(store, deed))
            self.check_asks(rng, disk, store, tree)
        self.error(BadValue, [0], store.ask, None)
        self.error(NoPage, [tree.root], store.cell, tree.root)
        self.check_asks(rng, disk, store, tree)

    def test_amid_changes(self):
        rng = random.Random(67)
        disk, store = filled(2, 40)
        tree = store.tree()
        for _ in range(40):
            deed = deed_of(rng, tree, most=60)
            do(tree, deed)
            do(store, deed)
            for kind in KINDS:
                question = question_of(rng, 2, kind, room=40, last=5)
                self.assertEqual(store.ask(question), answer(tree, question))
        self.assertEqual(disk.writes(), ())
        store.rollback()
        self.check_asks(rng, disk, store, store.tree(), 2)

    def test_counts_of_pages_that_are_not_read(self):
        disk, store = filled(1, 30)
        disk.forget()
        self.assertEqual(store.ask(question=("count", (), 0)), 30)
        self.assertEqual(store.ask(("count", [["inside", [[-1000, 1000]]]], 9)), 30)
        self.assertEqual(disk.reads(), ())
        empty = Store.created(disk := TracedDisk(), 1)
        disk.forget()
        self.assertEqual(empty.ask(("count", (), 0)), 0)
        self.assertEqual(disk.reads(), (empty.cell(0),))

    def test_wrong_questions(self):
        disk, store = filled(1, 30)
        other, empty = filled(2, 30)[1], Store.created(Disk(), 2)
        disk.forget()
        for value in NO_QUESTIONS:
            self.error(BadValue, [0], store.ask, value)
            self.error(BadValue, [0], empty.ask, value)
        self.error(BadValue, [0], other.ask, ("nearest", 1, ((0, 1),), 0))
        self.error(BadValue, [0], store.ask, ("nearest", 1, ((0, 1), (0, 1)), 0))
        store.put(10 ** 7, ((0, 0),))
        self.error(BadValue, [0], store.ask, question=("skyline", 1001))
        self.assertEqual(disk.reads(), ())


class CellTest(StoreTest):
    def test_other_numbers(self):
        disk, store = filled(1, 60)
        view = store.view()
        inner = [number for number, level, _ in store.tree().pages() if level]
        for asked in (store, view):
            disk.forget()
            for value in (*inner, -1, 999, 1000, 10 ** 30, True, False, None, "0", "", (0,), [], [0], [[0]], ((0,),)):
                self.error(NoPage, [value], asked.cell, value)
            for number, *_ in store.tree().directory():
                cell = asked.cell(number=number)
                self.assertTrue(type(cell) is int and 0 <= cell < 1000)
            self.assertEqual(disk.reads(), ())

    def test_of_the_committed_state(self):
        disk, store = filled(1, 6)
        self.assertEqual([number for number, *_ in store.tree().directory()], [0])
        store.put(10 ** 7, ((0, 0),))
        pages = store.tree().directory()
        self.assertEqual(len(pages), 2)
        store.cell(0)
        self.error(NoPage, [1], store.cell, 1)
        store.commit()
        self.assertNotEqual(store.cell(0), store.cell(1))
        store.drop(10 ** 7)
        store.cell(1)
        store.rollback()
        self.check_cells(disk, store)

    def test_cells_of_pages_that_stay(self):
        # The text of a cell tells of its page alone, whichever store it belongs to.
        disk, store = filled(3, 30)
        texts = texts_of(disk)
        for number, level, entries in store.tree().pages():
            if level == 0:
                self.assertEqual(items_in(text=texts[store.cell(number)]), entries)
        empty = TracedDisk()
        store = Store.created(empty, 3)
        self.assertEqual(items_in(texts_of(empty)[store.cell(0)]), ())
        self.assertIsInstance(store.view(), View)


if __name__ == "__main__":
    unittest.main()
