"""Joins: pairs that meet, lots that settle them, twins, smallest lots and bounds. [3] [4] [54] to [57]"""

import copy
import random
import unittest

from groves import clustered, convoys, grown, on_line, three_pages
from helpers import as_lists, is_plain, mixed
from join_rules import TIMES, Sides, crossed_trees, pairs_of, small_pairs, small_tree
from makers import items_of
from twin_rules import leaves_of, some_twin, twin_items, two_pages

from boundstead.covers import join_bound_holds
from boundstead.errors import BadValue, SpatialError
from boundstead.joins import join_bound, join_fewest, join_pairs, join_settles, join_twin
from boundstead.lots import is_twin
from boundstead.trees import Tree

CALLS = ((join_pairs, ()), (join_settles, (((), ()),)), (join_twin, (((), ()),)), (join_fewest, ()), (join_bound, ()),
         (join_bound_holds, (((), ()),)))
NO_TIMES = (-1, 1001, True, None, "0", (0,), [], 10 ** 30)


class JoinTest(unittest.TestCase):
    def error(self, at, call, *args, **named):
        with self.assertRaises(SpatialError) as caught:
            call(*args, **named)
        self.assertEqual((type(caught.exception), caught.exception.at), (BadValue, at), (args, named))


class JoinPairsTest(JoinTest):
    def check(self, one, other, time):
        found = join_pairs(one, other, time)
        self.assertTrue(is_plain(found))
        self.assertEqual(found, pairs_of(one.all_items(), other.all_items(), time))
        return found

    def test_small_trees(self):
        rng = random.Random(54)
        counts = {0: 0, 1: 0}
        for _ in range(120):
            axes = rng.randint(1, 4)
            one, other = small_tree(rng, axes), small_tree(rng, axes)
            for time in (0, rng.randint(1, 9), 1000):
                counts[min(1, len(self.check(one, other, time)))] += 1
                self.check(one, one, time)
        self.assertGreater(min(counts.values()), 20)

    def test_large_trees(self):
        rng = random.Random(55)
        one, other = grown(rng, 2, 150, room=30, width=9), clustered(rng, 2, 120, room=30)
        for time in (0, 5):
            self.assertGreater(len(self.check(one, other, time)), 20)

    def test_ends_and_order(self):
        one = Tree.packed(1, on_line((5, 0, 3), (2, 10, 12, 1), (9, 100, 100)))
        other = Tree.packed(1, on_line((7, 3, 10), (1, 13, 13), (3, 4, 9)))
        self.assertEqual(join_pairs(one, other, 0), ((2, 7), (5, 7)))
        self.assertEqual(join_pairs(one, other, 1), ((2, 1), (5, 7)))
        self.assertEqual(join_pairs(other, one, 1), ((1, 2), (7, 5)))
        self.assertEqual(join_pairs(time=2, other=other, one=one), ((2, 1), (5, 7)))
        self.assertEqual(join_pairs(one, one, 0), ((2, 2), (5, 5), (9, 9)))
        self.assertEqual(join_pairs(one, Tree(1), 0), ())
        self.assertEqual(join_pairs(Tree(1), one, 0), ())
        self.assertEqual(join_pairs(Tree(1), Tree(1), 1000), ())

    def test_places_out_of_the_range(self):
        one = Tree.packed(1, on_line((1, 1000000, 1000000, 100)))
        other = Tree.packed(1, on_line((2, 999999, 1000000, 100), (3, 1000000, 1000000, 99)))
        self.assertEqual(join_pairs(one, other, 1000), ((1, 2),))
        self.assertEqual(join_pairs(one, other, 0), ((1, 2), (1, 3)))


class JoinSettlesTest(JoinTest):
    def test_all_join_lots_of_small_trees(self):
        told = {True: 0, False: 0}
        for rng, sides in small_pairs(56, 70):
            one, other = sides.trees
            for lot in sides.lots():
                lot = tuple(tuple(rng.sample(part, len(part))) for part in lot)
                settled = sides.settles(lot)
                told[settled] += 1
                shape = rng.choice((tuple, as_lists, mixed))
                self.assertIs(join_settles(one, other, sides.time, shape(lot)), settled, (one.pages(), other.pages()))
                twins = join_twin(one, other, sides.time, shape(lot))
                self.assertEqual(twins is None, settled)
                if twins is not None:
                    self.check_twins(sides, lot, twins)
        self.assertGreater(min(told.values()), 300, told)

    def check_twins(self, sides, lot, twins):
        self.assertTrue(is_plain(twins))
        self.assertEqual(len(twins), 2)
        self.assertEqual(sides.flaws_of_twins(lot, twins), [], (sides.trees[0].pages(), sides.trees[1].pages(), lot))
        for tree, part, twin in zip(sides.trees, lot, twins):
            self.assertIs(is_twin(tree, part, twin), True)

    def test_join_twins_for_a_lot_that_settles_have_the_same_join(self):
        settled = 0
        for rng, sides in small_pairs(57, 60):
            told = pairs_of(*[tree.all_items() for tree in sides.trees], sides.time)
            for lot in sides.lots():
                if sides.settles(lot):
                    for _ in range(3):
                        twins = [some_twin(rng, *each) for each in zip(sides.trees, lot)]
                        items = [twin_items(*each) for each in zip(sides.trees, twins)]
                        self.assertEqual(pairs_of(*items, sides.time), told)
                        settled += 1
        self.assertGreater(settled, 300)

    def test_the_four_cases(self):
        # At time 10 a speed of 0 to 1 leads 0 to 10 steps on; page 1 has an item in the middle.
        moving = [(((0, 0),), (0,)), (((0, 0),), (1,)), (((0, 5),), (1,))]
        one = two_pages(moving)
        for far, told in (
            # Nothing possible meets: the places of page 1 end at 15.
            ([(((16, 16),), (0,))] * 3, ""),
            # Possible, but no item of page 1 reaches what is possible there, and none of that what is possible on 1.
            ([(((15, 15),), (0,))] * 3, "both"),
            ([(((14, 14),), (0,)), (((30, 30),), (0,)), (((40, 40),), (0,))], "both"),
            ([(((14, 30),), (0,)), (((16, 16),), (0,)), (((17, 17),), (0,))], "both"),
        ):
            other = two_pages(far, [(((-900000, -900000),), (0,))] * 3)
            sides = Sides(one, other, 10)
            for lot in sides.lots():
                self.assertIs(join_settles(one, other, 10, lot), sides.settles(lot))
            settled = {lot for lot in sides.lots() if join_settles(one, other, 10, lot)}
            self.assertEqual(((), ()) in settled, told == "")
            self.assertEqual(((1,), (1,)) in settled, True)
            self.assertEqual(((1,), ()) in settled or ((), (1,)) in settled, told == "")

    def test_each_single_case(self):
        # Page 1 of one: two items apart, so that the bounds between them are possible but empty.
        apart = [(((0, 0),), (0,)), (((0, 0),), (0,)), (((100, 100),), (0,))]
        gap = [(((40, 40),), (0,)), (((50, 50),), (0,)), (((60, 60),), (0,))]
        wide = [(((40, 40),), (0,)), (((50, 50),), (0,)), (((160, 160),), (0,))]
        left = [(((900000, 900000),), (0,))] * 3
        right = [(((-900000, -900000),), (0,))] * 3
        far = [(((200, 200),), (0,))] * 3
        for mine, its, expected in (
            # No item of mine reaches 40 to 60; items of its are within what is possible for mine.
            (apart, gap, {((1,), ()): True, ((), (1,)): False, ((1,), (1,)): True, ((), ()): False}),
            (gap, apart, {((1,), ()): False, ((), (1,)): True, ((1,), (1,)): True, ((), ()): False}),
            # The item at 100 may meet one between 40 and 160.
            (apart, wide, {((1,), ()): False, ((), (1,)): False, ((1,), (1,)): True, ((), ()): False}),
            (apart, far, {((1,), ()): True, ((), (1,)): True, ((1,), (1,)): True, ((), ()): True}),
        ):
            one, other = two_pages(mine, left), two_pages(its, right)
            for lot, told in expected.items():
                self.assertIs(join_settles(one, other, 0, lot), told, (mine, its, lot))
                self.assertIs(join_settles(one, other, 1000, lot), told, (mine, its, lot))
                self.assertEqual(join_twin(one, other, 0, lot) is None, told)

    def test_pairs_of_which_either_page_is_enough(self):
        # Items at the two ends of a square each, so that the hulls cross between them.
        one = two_pages([(((0, 0), (50, 50)), (0, 0)), (((100, 100), (50, 50)), (0, 0)), (((0, 0), (50, 50)), (0, 0))])
        other = two_pages([(((50, 50), (0, 0)), (0, 0)), (((50, 50), (100, 100)), (0, 0)), (((50, 50), (0, 0)), (0, 0))],
                          [(((-900000, -900000),) * 2, (0, 0))] * 3)
        for lot, told in ((((), ()), False), (((1,), ()), True), (((), (1,)), True), (((1,), (1,)), True),
                          (((2,), (2,)), False)):
            self.assertIs(join_settles(one, other, 5, lot), told)
        self.assertEqual(sum(map(len, join_fewest(one, other, 5))), 1)
        self.assertEqual(join_bound(one, other, 5), ((), ((1, 1),)))

    def test_speeds_are_integers(self):
        # At time 10 the places of page 1 are at 0, 10 or 20, never between.
        one = two_pages([(((0, 0),), (rate,)) for rate in (0, 1, 2)])
        for low, high, told in ((1, 9, False), (11, 19, False), (5, 5, False), (9, 10, True), (10, 10, True),
                                (20, 30, True), (21, 30, False), (-9, -1, False), (-9, 0, True)):
            rest = [((((low, high)),), (0,))] * 3
            other = two_pages(rest, [(((-900000, -900000),), (0,))] * 3)
            self.assertIs(join_settles(one, other, 10, ((), ())), not told, (low, high))
            self.assertIs(join_settles(other, one, 10, ((), ())), not told, (low, high))
            self.assertEqual(join_fewest(one, other, 10) == ((), ()), not told)
            twins = join_twin(one, other, 10, ((), ()))
            if told:
                self.assertEqual(Sides(one, other, 10).flaws_of_twins(((), ()), twins), [])

    def test_lone_leaf_pages(self):
        rng = random.Random(58)
        for axes in (1, 2, 4):
            for many in (0, 1, 6):
                for time in (0, 1, 1000):
                    one = Tree.packed(axes, items_of(rng, axes, many, room=9), most=6)
                    for other in (one, Tree(axes), Tree.packed(axes, items_of(rng, axes, 3, room=9)),
                                  convoys(rng, axes, 2)):
                        sides = Sides(one, other, time)
                        for lot in sides.lots():
                            settled = join_settles(one, other, time, lot)
                            self.assertIs(settled, sides.settles(lot))
                            if not settled:
                                self.check_twins(sides, lot, join_twin(one, other, time, lot))

    def test_a_tree_with_itself(self):
        tree = three_pages()
        # Each page may meet itself, and only itself, so both sides of each are to be read.
        self.assertEqual(join_fewest(tree, tree, 0), ((1, 2, 3), (1, 2, 3)))
        self.assertIs(join_settles(tree, tree, 0, ((1, 2, 3), (1, 2))), False)
        self.assertEqual(join_twin(tree, tree, 0, ((1, 2, 3), (1, 2)))[0], ())
        self.assertEqual([row[0] for row in join_twin(tree, tree, 0, ((1, 2), (1, 2, 3)))[0]], [3])
        self.assertEqual([[row[0] for row in twin] for twin in join_twin(tree, tree, 0, ((), ()))], [[1], [1]])

    def test_ends_of_the_ranges(self):
        ends = [(((-1000000, -1000000),), (-100,)), (((-1000000, 1000000),), (100,)), (((1000000, 1000000),), (0,))]
        corner = [(((1000000, 1000000),), (100,))] * 3
        for one in (two_pages(ends), two_pages(corner), Tree(1)):
            for other in (two_pages(ends), two_pages(corner, ends), Tree(1)):
                for time in (0, 1, 999, 1000):
                    sides = Sides(one, other, time)
                    for lot in sides.lots():
                        settled = sides.settles(lot)
                        self.assertIs(join_settles(one, other, time, lot), settled)
                        twins = join_twin(one, other, time, lot)
                        self.assertEqual(twins is None, settled)
                        if twins is not None:
                            self.check_twins(sides, lot, twins)

    def test_arguments_stay(self):
        one, other, lot = three_pages(), two_pages([(((0, 220),), (0,))] * 3), [[3, 1], []]
        before = one.pages(), other.pages(), copy.deepcopy(lot)
        twins = join_twin(one, other, 0, lot)
        told = copy.deepcopy(twins)
        join_settles(one=one, other=other, time=0, lot=lot)
        self.assertEqual((one.pages(), other.pages(), lot), before)
        lot[0].append(2)
        self.assertEqual(twins, told)
        self.assertIs(join_settles(time=0, lot=((1, 2, 3), (1, 2)), other=other, one=one), True)
        self.assertIsNone(join_twin(time=0, lot=((1, 2, 3), (1, 2)), other=other, one=one))


class JoinFewestTest(JoinTest):
    def check(self, sides):
        """The number of pages; the lot and the bound are as [56] and [57] tell."""
        one, other = sides.trees
        lot = join_fewest(one, other, sides.time)
        self.assertTrue(is_plain(lot))
        for tree, part in zip(sides.trees, lot):
            self.assertEqual(part, tuple(sorted(set(part))))
            self.assertLessEqual(set(part), set(leaves_of(tree)))
        self.assertTrue(sides.settles(lot), (one.pages(), other.pages(), sides.time, lot))
        self.assertIs(join_settles(one, other, sides.time, lot), True)
        bound = join_bound(one, other, sides.time)
        self.assertTrue(is_plain(bound))
        self.assertEqual(len(bound[0]) + len(bound[1]), len(lot[0]) + len(lot[1]))
        self.assertIsNone(sides.wrong_member(bound))
        self.assertIs(join_bound_holds(one, other, sides.time, bound), True)
        return len(lot[0]) + len(lot[1])

    def test_against_all_lots(self):
        sizes = {}
        for _, sides in small_pairs(59, 150):
            size = self.check(sides)
            least = min(len(one) + len(other) for one, other in sides.lots() if sides.settles((one, other)))
            self.assertEqual(size, least)
            sizes[size] = sizes.get(size, 0) + 1
        self.assertTrue(all(sizes.get(size, 0) > 2 for size in range(6)), sizes)

    def test_more_pages(self):
        rng = random.Random(60)
        parts = [0, 0, 0]
        for _ in range(60):
            axes = rng.randint(1, 4)
            one = clustered(rng, axes, rng.randint(20, 80), room=rng.choice((20, 200)))
            other = clustered(rng, axes, rng.randint(20, 80), most=rng.choice((6, 12)), room=rng.choice((20, 200)))
            sides = Sides(one, other, rng.choice(TIMES))
            self.check(sides)
            bound = join_bound(one, other, sides.time)
            parts[0] += len(bound[0])
            parts[1] += len(bound[1])
            parts[2] += not bound[0] and not bound[1]
        self.assertGreater(min(parts), 5, parts)

    def test_crossing_pages(self):
        # Pages whose hulls cross without any item between them: only pairs, nothing forced.
        rng = random.Random(61)
        sizes = set()
        for _ in range(60):
            sides = Sides(*crossed_trees(rng, 6, 0), rng.choice((0, 3)))
            self.assertEqual(join_bound(*sides.trees, sides.time)[0], ())
            size = self.check(sides)
            sizes.add(size)
            if len(sides.lots()) <= 1024:
                least = min(len(one) + len(other) for one, other in sides.lots() if sides.settles((one, other)))
                self.assertEqual(size, least)
        self.assertTrue(sizes >= {0, 1, 2, 3}, sizes)

    def test_empty_trees(self):
        self.assertEqual(sum(map(len, join_fewest(Tree(2), Tree(2), 7))), 1)
        self.assertEqual(join_bound(one=Tree(2), time=7, other=Tree(2)), ((), ((0, 0),)))
        # Of the page with items, each one forces the empty page; the empty one forces none.
        tree = three_pages()
        self.assertEqual(join_fewest(tree, Tree(1), 0), ((), (0,)))
        self.assertEqual(join_fewest(time=0, other=tree, one=Tree(1)), ((0,), ()))
        for pair in ((tree, Tree(1)), (Tree(1), tree), (Tree(1), Tree(1))):
            self.check(Sides(*pair, 3))


class ErrorsTest(JoinTest):
    def test_trees_of_different_axes(self):
        for axes in (1, 2, 3, 4):
            for others in (1, 2, 3, 4):
                for call, rest in CALLS:
                    if axes != others:
                        for time in (0, *NO_TIMES):
                            for last in ((rest, (None,), ((),)) if rest else ((),)):
                                self.error(1, call, Tree(axes), Tree(others), time, *last)
                    else:
                        call(Tree(axes), Tree(others), 0, *rest)

    def test_no_time(self):
        for call, rest in CALLS:
            for time in NO_TIMES:
                for last in ((rest, (None,), (((9,), ()),)) if rest else ((),)):
                    self.error(2, call, three_pages(), three_pages(), time, *last)

    def test_no_join_lot(self):
        one, other = three_pages(), two_pages([(((0, 220),), (0,))] * 3)
        for call in (join_settles, join_twin):
            for lot in (
                None, True, 0, "", "ab", (), ((),), ((), (), ()), [[]], ((), None), (None, ()), ("", ""), ((1,), "1"),
                ((9,), ()), ((), (9,)), ((), (3,)), ((4,), ()), ((1, 1), ()), ((), (2, 2)), ((True,), ()), ((), (True,)),
                ((0,), ()), ((1, (2,)), ()), ((1,), 1), (1, 1), ((-1,), ()), ((), (10 ** 30,)), ([1], [[1]]),
            ):
                self.error(3, call, one, other, 0, lot)
            self.error(3, call, one, other, 0, lot=((1,), (1, 2, 3)))
            self.error(3, call, lot=((3,), ()), time=0, one=other, other=one)
            call(one, other, 0, ((3, 2), [2, 1]))


if __name__ == "__main__":
    unittest.main()
