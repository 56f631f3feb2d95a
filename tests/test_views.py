"""Views: they answer from the commit at which they were taken. [8] [63]"""

import random
import unittest

from disk_helpers import deed_of, do, texts_of
from groves import NO_QUESTIONS
from test_stores import StoreTest, filled

from boundstead.errors import BadValue, Closed, NoPage
from boundstead.stores import Store, View, items_in


class ViewTest(StoreTest):
    def check_view(self, rng, disk, view, tree):
        self.assertEqual(view.tree(), tree)
        self.assertEqual(view.tree().pages(), tree.pages())
        self.check_asks(rng, disk, view, tree)
        texts = texts_of(disk, [view.cell(number) for number, *_ in tree.directory()])
        for number, level, entries in tree.pages():
            if level == 0:
                self.assertEqual(items_in(texts[view.cell(number)]), entries)
            else:
                self.error(NoPage, [number], view.cell, number)

    def test_a_view_of_the_committed_state(self):
        rng = random.Random(63)
        disk, store = filled(2, 30)
        tree = store.tree()
        store.put(10 ** 7, ((0, 0), (0, 0)))
        disk.forget()
        disk.counts()
        view = store.view()
        self.assertIsInstance(view, View)
        self.assertEqual((disk.reads(), disk.trace), ((), []))
        self.check_view(rng, disk, view, tree)
        self.assertIn(10 ** 7, store.tree())
        store.commit()
        self.check_view(rng, disk, view, tree)
        self.check_view(rng, disk, store.view(), store.tree())
        for key, *_ in tree.all_items():
            store.drop(key)
        store.commit()
        self.check_view(rng, disk, view, tree)
        store.rollback()
        self.check_view(rng, disk, view, tree)

    def test_its_tree_is_independent(self):
        disk, store = filled(2, 30)
        view = store.view()
        tree = view.tree()
        tree.drop(tree.all_items()[0][0])
        self.assertEqual(view.tree(), store.tree())
        self.assertEqual(len(tree), 29)

    def test_up_to_ten_views(self):
        rng = random.Random(64)
        for most in (6, 12):
            disk, store = filled(2, 100, most)
            views = []
            for turn in range(60):
                if len(views) == 10:
                    view, seen = views.pop(rng.randrange(10))
                    self.check_view(rng, disk, view, seen)
                    self.assertIsNone(view.close())
                views.append((store.view(), store.tree()))
                for _ in range(rng.choice((1, 3, 30))):
                    do(store, deed_of(rng, store.tree(), most=120))
                held = {view.cell(number) for view, seen in views for number, *_ in seen.directory()}
                disk.forget()
                store.commit()
                self.assertTrue(disk.writes() or not store.changed())
                self.assertFalse(held & set(disk.writes()))
                self.assertTrue(all(cell < 1000 for cell in disk.writes()))
                if turn % 12 == 0:
                    for view, seen in views:
                        self.check_view(rng, disk, view, seen)
            for view, seen in views:
                self.check_view(rng, disk, view, seen)
            self.check_opened(disk, store.tree())

    def test_views_of_the_largest_trees(self):
        # Ten views, each of its own leaf pages of three items.
        disk, store = filled(1, 0)
        views = []
        for turn in range(11):
            for key, *_ in store.tree().all_items():
                store.drop(key)
            for key in range(200):
                store.put(1000 * turn + key, ((10 * key, 10 * key + turn),))
            store.commit()
            if turn < 10:
                views.append((store.view(), store.tree()))
        cells = {view.cell(number) for view, seen in views for number, *_ in seen.directory()}
        self.assertEqual(len(cells), sum(len(seen.directory()) for _, seen in views))
        self.assertGreater(len(cells), 600)
        rng = random.Random(65)
        for view, seen in views:
            self.check_view(rng, disk, view, seen)
        self.check_cells(disk, store)

    def test_closed(self):
        disk, store = filled(2, 30)
        rng = random.Random(66)
        tree = store.tree()
        view, other = store.view(), store.view()
        for _ in range(2):
            self.assertIsNone(view.close())
            self.error(Closed, [], view.tree)
            self.error(Closed, [], view.ask, ("skyline", 0))
            self.error(Closed, [], view.cell, tree.directory()[0][0])
            for value in NO_QUESTIONS:
                self.error(Closed, [], view.ask, value)
            for value in (-1, True, None, "0", [], tree.root):
                self.error(Closed, [], view.cell, value)
        self.check_view(rng, disk, other, tree)
        store.drop(tree.all_items()[0][0])
        store.commit()
        self.error(Closed, [], view.tree)
        self.check_view(rng, disk, other, tree)
        other.close()
        later = store.view()
        self.error(Closed, [], view.tree)
        self.error(Closed, [], other.tree)
        self.check_view(rng, disk, later, store.tree())

    def test_wrong_questions(self):
        disk, store = filled(1, 30)
        view = store.view()
        disk.forget()
        for value in NO_QUESTIONS:
            self.error(BadValue, [0], view.ask, value)
        self.error(BadValue, [0], view.ask, question=("nearest", 1, ((0, 1), (0, 1)), 0))
        self.assertEqual(disk.reads(), ())

    def test_views_are_not_kept_on_the_disk(self):
        disk, store = filled(2, 30)
        texts = texts_of(disk)
        views = [store.view() for _ in range(3)]
        views[1].close()
        self.assertEqual(texts_of(disk), texts)
        again = Store.opened(disk)
        self.assertEqual(again.tree(), store.tree())


if __name__ == "__main__":
    unittest.main()
