"""What is left of a store when the disk goes down or the power fails. [5] [60] [62]"""

import copy
import random
import unittest

from disk_helpers import FATES, TracedDisk, deed_of, do, is_cut_off, restarted, same_texts, texts_of
from makers import question_of

from boundstead.asking import answer
from boundstead.disks import Disk
from boundstead.errors import Crashed, NoStore, SpatialError, TakenDisk
from boundstead.stores import Store
from boundstead.trees import Tree


def story(rng, commits, axes=2, most=6, deeds=(1, 2, 6)):
    """A disk with a store after so many commits, and the store."""
    disk = TracedDisk()
    store = Store.created(disk, axes, most=most)
    for _ in range(commits):
        for _ in range(rng.choice(deeds)):
            do(store, deed_of(rng, store.tree(), most=40))
        store.commit()
    return disk, store


def trace_of_commit(disk, store):
    """The writes and syncs that the commit of the store will make."""
    whole, twin = copy.deepcopy((disk, store))
    whole.trace = []
    twin.commit()
    return whole.trace


def tree_of(disk):
    """The committed state of the store that the disk holds, or None."""
    try:
        return Store.opened(disk).tree()
    except NoStore:
        return None


class CrashTest(unittest.TestCase):
    def check_after(self, disk, fates, allowed):
        """The state after the power failed, which is one of those allowed, as often as it is opened."""
        disk = restarted(disk, fates)
        tree = tree_of(disk)
        self.assertTrue(any(tree == each for each in allowed), fates)
        self.assertEqual((disk.writes() if tree is None else ()), ())
        for again in (disk, restarted(disk, (0,) * 9), restarted(disk, (10000,) * 9), same_texts(disk)):
            self.assertEqual(tree_of(again), tree)
        return disk, tree


class CreatedTest(CrashTest):
    def test_cut_off_at_each_step(self):
        results = set()
        for limit in range(40):
            disk = Disk()
            if not is_cut_off(disk, limit, lambda: Store.created(disk, 3, most=7)):
                break
            for fates in FATES:
                after, tree = self.check_after(disk, fates, (None, Tree(3, most=7)))
                results.add(tree is None)
                if tree is None:
                    store = Store.created(after, 2, most=9)
                    self.assertEqual(store.tree(), Tree(2, most=9))
                    store.put(1, ((0, 1), (2, 3)))
                    store.commit()
                    self.assertEqual(tree_of(after), store.tree())
                else:
                    with self.assertRaises(TakenDisk):
                        Store.created(after, 2, most=9)
        self.assertGreater(limit, 1)
        self.assertEqual(results, {True, False})
        # By a limit that is just enough nothing is cut off, and all is durable.
        self.check_after(disk, (), (Tree(3, most=7),))

    def test_cut_off_again_and_again(self):
        rng = random.Random(62)
        held = 0
        for _ in range(150):
            disk = Disk()
            for _ in range(6):
                axes, most = rng.randint(1, 4), rng.randint(6, 12)
                self.assertTrue(is_cut_off(disk, rng.randint(0, 3), lambda: Store.created(disk, axes, most=most)))
                fates = rng.choice(FATES + ((rng.randint(0, 2001), rng.randint(0, 2001)),))
                disk, tree = self.check_after(disk, fates, (None, Tree(axes, most=most)))
                if tree is not None:
                    held += 1
                    break
            else:
                self.assertEqual(Store.created(disk, 1).tree(), Tree(1))
                self.assertEqual(tree_of(disk), Tree(1))
        self.assertTrue(10 < held < 140, held)

    def test_each_length_of_what_is_left(self):
        disk = Disk()
        steps = 0
        while is_cut_off(disk, steps, lambda: Store.created(disk, 1, most=6)):
            steps, disk = steps + 1, Disk()
        disk = Disk()
        self.assertTrue(is_cut_off(disk, steps - 1, lambda: Store.created(disk, 1, most=6)))
        seen = []
        for fate in range(0, 2002, 3):
            after = restarted(disk, (fate,) * 9)
            seen.append(tree_of(after) is not None)
            self.assertIn(tree_of(after), (None, Tree(1, most=6)))
        self.assertEqual(seen, sorted(seen))
        self.assertEqual((seen[0], seen[-1]), (False, True))


class CommitTest(CrashTest):
    def check_commit(self, rng, disk, store, deeds):
        """Cut off the commit of some deeds at each step; what is left is the state before or after it."""
        before = store.tree()
        for deed in deeds:
            do(store, deed)
        after = store.tree()
        seen = set()
        for limit in range(200):
            cut, twin = copy.deepcopy((disk, store))
            if not is_cut_off(cut, limit, twin.commit):
                break
            for fates in FATES:
                left, tree = self.check_after(cut, fates, (before, after))
                seen.add(tree == after)
                # Commits go on from there.
                again = Store.opened(left)
                do(again, deed_of(rng, tree, most=40))
                again.commit()
                self.assertEqual(tree_of(left), again.tree())
        self.check_after(cut, (), (after,))
        return seen, limit

    def test_cut_off_at_each_step(self):
        rng = random.Random(63)
        seen, steps = set(), set()
        for commits in (0, 1, 2, 3, 4, 7):
            for many in (1, 3):
                disk, store = story(rng, commits)
                tree, deeds = store.tree(), []
                for _ in range(many):
                    deeds.append(deed_of(rng, tree, most=40))
                    do(tree, deeds[-1])
                told, limit = self.check_commit(rng, disk, store, deeds)
                seen |= told
                steps.add(limit)
        self.assertEqual(seen, {True, False})
        self.assertGreater(max(steps), 3)

    def test_splits_merges_and_new_roots(self):
        rng = random.Random(64)
        # The seventh item splits the only page, and without it both parts are merged.
        disk = Disk()
        store = Store.created(disk, 1, most=6)
        for key in range(6):
            store.put(key, ((key, key),))
        store.commit()
        for deeds in ([("put", 6, ((6, 6),), None)], [("drop", 6)], [("drop", key) for key in range(6)]):
            twins = copy.deepcopy((disk, store))
            self.check_commit(rng, *twins, deeds)
            for deed in deeds:
                do(store, deed)
            store.commit()
        self.assertEqual(tree_of(disk), Tree(1, most=6))

    def test_many_pages(self):
        rng = random.Random(65)
        disk, store = story(rng, 2)
        tree = store.tree()
        for key in range(100):
            do(store, ("put", 10 ** 7 + key, ((rng.randint(0, 99),) * 2,) * 2, (0, 0)))
        after = store.tree()
        seen = set()
        limit = 0
        while True:
            cut, twin = copy.deepcopy((disk, store))
            if not is_cut_off(cut, limit, twin.commit):
                break
            for fates in (FATES if limit % 10 == 0 else FATES[:4]) + ((2000,) * 99,):
                seen.add(self.check_after(cut, fates, (tree, after))[1] == after)
            limit += 1
        self.assertGreater(limit, 20)
        self.assertEqual(seen, {True, False})

    def test_each_length_of_what_is_left(self):
        # The last step before the end of a commit, with every part of its last write done.
        rng = random.Random(66)
        for commits in (1, 2, 9, 10):
            disk, store = story(rng, commits)
            before = store.tree()
            do(store, deed_of(rng, before))
            after = store.tree()
            steps = len(trace_of_commit(disk, store))
            cut, twin = copy.deepcopy((disk, store))
            self.assertTrue(is_cut_off(cut, steps - 1, twin.commit))
            self.assertEqual(cut.pending(), 1)
            seen = []
            for fate in list(range(0, 2001, 7)) + list(range(1900, 2003)):
                left = restarted(cut, (fate,))
                tree = tree_of(left)
                self.assertIn(tree, (before, after))
                seen.append((fate, tree == after))
            told = [new for _, new in sorted(seen)]
            self.assertEqual(told, sorted(told))
            self.assertEqual((told[0], told[-1]), (False, True))

    def test_cut_off_again_and_again(self):
        rng = random.Random(67)
        outcomes = {True: 0, False: 0}
        for _ in range(25):
            disk, store = story(rng, rng.randint(0, 4))
            for _ in range(25):
                before = store.tree()
                for _ in range(rng.choice((1, 1, 4))):
                    do(store, deed_of(rng, store.tree(), most=40))
                after = store.tree()
                steps = len(trace_of_commit(disk, store))
                limit = rng.choice((steps, steps - 1, steps - 1, steps - 1, rng.randint(0, steps)))
                if is_cut_off(disk, max(0, limit), store.commit):
                    length = rng.choice((0, 5, 11, 12, 13, 500, 1987, 1988, 1990, 1999, 2000, 2000, 2000, rng.randint(0, 2001)))
                    disk.restart([length] * rng.choice((0, 1, 9, 9, 9)))
                    store = Store.opened(disk)
                    self.assertIn(store.tree(), (before, after))
                    outcomes[store.tree() == after] += 1
                    self.assertEqual(tree_of(disk), store.tree())
                else:
                    disk.restart((0,) * 9)
                    self.assertEqual(tree_of(disk), after)
                    store = Store.opened(disk)
        self.assertGreater(min(outcomes.values()), 30, outcomes)

    def test_calls_that_are_cut_off_did_what_the_limit_allowed(self):
        rng = random.Random(68)
        disk, store = story(rng, 3)
        for _ in range(5):
            do(store, deed_of(rng, store.tree()))
        trace = trace_of_commit(disk, store)
        for limit in range(len(trace) + 1):
            cut, twin = copy.deepcopy((disk, store))
            cut.trace = []
            self.assertIs(is_cut_off(cut, limit, twin.commit), limit < len(trace))
            self.assertEqual(cut.trace, trace[:limit])


class OpenedTest(CrashTest):
    def test_cut_off_at_each_step(self):
        rng = random.Random(69)
        for commits in (0, 1, 2, 5):
            disk, store = story(rng, commits)
            do(store, deed_of(rng, store.tree()))
            before, after = Store.opened(disk).tree(), store.tree()
            for limit in (0, 1, 2, 3, 4):
                cut, twin = copy.deepcopy((disk, store))
                is_cut_off(cut, limit, twin.commit)
                for fates in FATES[:8]:
                    left = restarted(cut, fates)
                    first = tree_of(copy.deepcopy(left))
                    self.assertIn(first, (before, after))
                    for steps in (0, 0, 1, 0, 2, 1, 3, 0):
                        if is_cut_off(left, steps, lambda: Store.opened(left)):
                            left.restart(rng.choice(FATES))
                    left.restart(())
                    self.assertEqual(tree_of(left), first)

    def test_a_disk_that_is_down(self):
        rng = random.Random(70)
        disk, store = story(rng, 2)
        disk.limit(0)
        for call in (lambda: disk.write(1, ""), lambda: Store.opened(disk), lambda: Store.created(disk, 1)):
            with self.assertRaises(Crashed):
                call()
        # What needs neither a write nor a read goes on as ever.
        before = store.tree()
        self.assertEqual((store.changed(), len(store.view().tree())), (False, len(before)))
        store.drop(before.all_items()[0][0])
        with self.assertRaises(Crashed):
            store.commit()


class PowerTest(CrashTest):
    def test_deeds_without_a_commit_are_lost(self):
        rng = random.Random(71)
        for commits in (0, 1, 2, 6):
            for fates in FATES:
                disk, store = story(rng, commits)
                before = store.tree()
                for _ in range(rng.randint(0, 4)):
                    do(store, deed_of(rng, store.tree()))
                view = store.view()
                view.ask(question_of(rng, 2, "nearest"))
                self.assertEqual(disk.pending(), 0)
                disk.restart(fates)
                again = Store.opened(disk)
                self.assertEqual((again.tree(), again.changed()), (before, False))
                question = question_of(rng, 2, "select")
                self.assertEqual(again.ask(question), answer(before, question))

    def test_a_long_life(self):
        # Deeds, commits, rollbacks, limits and failures in any order.
        rng = random.Random(72)
        for _ in range(20):
            disk = Disk()
            store = Store.created(disk, 1, most=6)
            saved = store.tree()
            for _ in range(60):
                kind = rng.choice(("deed", "deed", "commit", "commit", "rollback", "power", "limit"))
                try:
                    if kind == "deed":
                        do(store, deed_of(rng, store.tree(), most=30))
                    elif kind == "rollback":
                        store.rollback()
                    elif kind == "limit":
                        disk.limit(rng.randint(0, 12))
                    elif kind == "power":
                        disk.restart(rng.choice(FATES))
                        store = Store.opened(disk)
                        self.assertEqual(store.tree(), saved)
                    else:
                        allowed = (saved, store.tree())
                        store.commit()
                        saved = store.tree()
                except SpatialError as error:
                    self.assertIsInstance(error, Crashed)
                    self.assertEqual(kind, "commit")
                    disk.restart(rng.choice(FATES))
                    store = Store.opened(disk)
                    saved = store.tree()
                    self.assertIn(saved, allowed)
            disk.restart(())
            self.assertEqual(tree_of(disk), saved)


class SameCallsTest(CrashTest):
    def test_the_same_calls_make_the_same_writes_and_syncs(self):
        traces, texts = [], []
        for _ in range(2):
            rng = random.Random(73)
            disk = TracedDisk()
            store = Store.created(disk, 2, most=6)
            views = []
            for turn in range(60):
                do(store, deed_of(rng, store.tree(), most=50))
                if turn % 3 == 0:
                    store.commit()
                if turn % 10 == 0:
                    views.append(store.view())
                if turn % 25 == 24:
                    views.pop(1).close()
                if turn == 40:
                    disk.restart(())
                    store, views = Store.opened(disk), [None, store.view()]
            traces.append(disk.trace)
            texts.append(texts_of(disk))
        self.assertEqual(traces[0], traces[1])
        self.assertEqual(texts[0], texts[1])
        self.assertGreater(len(traces[0]), 60)


if __name__ == "__main__":
    unittest.main()
