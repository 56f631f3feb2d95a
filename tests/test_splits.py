"""Divisions and the choice of a kid. [15] [28]"""

import copy
import itertools
import random
import unittest

import naive
from helpers import as_lists, is_plain, mixed
from makers import items_of

from boundstead.items import bounds_of
from boundstead.splits import best_kid, best_split


def points(*lows):
    """Bounds of resting points on one axis."""
    return tuple(((low, low, 0, 0),) for low in lows)


def entries_of(rng, axes, many, room, width, most):
    """Bounds of so many single items."""
    return tuple(bounds_of([item]) for item in items_of(rng, axes, many, room, width, most))


class BestSplitTest(unittest.TestCase):
    def check(self, entries, least):
        told = naive.best_split(entries, least)
        for shape in (tuple, as_lists, mixed):
            found = best_split(shape(entries), least)
            self.assertEqual(found, told, (entries, least))
            self.assertTrue(is_plain(found))
        one, other = told
        self.assertEqual(sorted(one + other), list(range(len(entries))))
        self.assertEqual((one[0], list(one), list(other)), (0, sorted(one), sorted(other)))
        self.assertTrue(min(len(one), len(other)) >= least)

    def test_rows(self):
        for entries, least, told in (
            (points(0, 9), 1, ((0,), (1,))),
            (points(9, 0), 1, ((0,), (1,))),
            # The cuts after one, two and three of the sorted four cost the same 2 + 12 and so on.
            (points(0, 1, 20, 21), 1, ((0, 1), (2, 3))),
            (points(20, 0, 21, 1), 1, ((0, 2), (1, 3))),
            (points(20, 0, 21, 1), 2, ((0, 2), (1, 3))),
            (points(0, 20, 21, 22), 1, ((0,), (1, 2, 3))),
            (points(22, 0, 21, 20), 1, ((0, 2, 3), (1,))),
            (points(0, 20, 21, 22), 2, ((0, 1), (2, 3))),
            # Equal entries stay by position; every cut costs the same 1, 2.
            (points(5, 5, 5, 5), 1, ((0,), (1, 2, 3))),
            (points(5, 5, 5, 5), 2, ((0, 1), (2, 3))),
            # Equal shared, different reaches: 0 and 3 + 1, or 0 and 1 + 2.
            (points(0, 2, 3), 1, ((0,), (1, 2))),
            # The speeds alone divide.
            ((((0, 0, 5, 5),), ((0, 0, -5, -5),), ((0, 0, 5, 5),), ((0, 0, -5, -5),)), 2, ((0, 2), (1, 3))),
            # On the second axis alone.
            (
                (
                    ((0, 9, 0, 0), (0, 0, 0, 0)),
                    ((0, 9, 0, 0), (9, 9, 0, 0)),
                    ((0, 9, 0, 0), (0, 0, 0, 0)),
                    ((0, 9, 0, 0), (9, 9, 0, 0)),
                ),
                2,
                ((0, 2), (1, 3)),
            ),
        ):
            self.assertEqual(best_split(entries, least), told, entries)
            self.check(entries, least)

    def test_first_axis_at_equal_cost(self):
        # A square of four points: either axis divides at the same cost.
        entries = tuple(((x, x, 0, 0), (y, y, 0, 0)) for x, y in ((0, 0), (0, 9), (9, 0), (9, 9)))
        self.assertEqual(best_split(entries, 2), ((0, 1), (2, 3)))
        self.check(entries, 2)

    def test_first_side_at_equal_cost(self):
        # By low the order is 0, 1, 2, by high 2, 1, 0: boxes within boxes; all costs are told by the groups alone.
        entries = (((0, 9, 0, 0),), ((1, 8, 0, 0),), ((2, 7, 0, 0),))
        self.check(entries, 1)
        ends = (((0, 30, 0, 0),), ((1, 29, 0, 0),), ((2, 28, 0, 0),), ((3, 27, 0, 0),))
        for order in itertools.permutations(ends):
            self.check(order, 1)
            self.check(order, 2)

    def test_first_cut_at_equal_cost(self):
        self.assertEqual(best_split(points(0, 10, 20, 30), 1), ((0,), (1, 2, 3)))
        for least in (1, 2, 3):
            for order in itertools.permutations((0, 10, 20, 30)):
                if least < 3:
                    self.check(points(*order), least)
        self.assertEqual(best_split(points(*range(0, 60, 10)), 3), ((0, 1, 2), (3, 4, 5)))

    def test_every_size_and_least(self):
        rng = random.Random(28)
        for many in range(2, 18):
            for least in range(1, many // 2 + 1):
                for axes in (1, 2, 3, 4):
                    self.check(entries_of(rng, axes, many, 20, 6, 2), least)

    def test_many_equal_entries(self):
        rng = random.Random(29)
        for _ in range(300):
            axes, many = rng.randint(1, 4), rng.randint(2, 17)
            kinds = entries_of(rng, axes, 3, 2, 2, 1)
            entries = tuple(rng.choice(kinds) for _ in range(many))
            self.check(entries, rng.randint(1, many // 2))

    def test_small_values(self):
        rng = random.Random(30)
        shared = 0
        for _ in range(500):
            axes, many = rng.randint(1, 3), rng.randint(2, 9)
            entries = entries_of(rng, axes, many, 2, 2, 1)
            least = rng.randint(1, many // 2)
            self.check(entries, least)
            costs = [cost for cost, _ in naive.divisions(entries, least)]
            shared += costs.count(min(costs)) > 1
        self.assertGreater(shared, 100)

    def test_large_values(self):
        rng = random.Random(31)
        for _ in range(50):
            self.check(entries_of(rng, 4, 17, 900000, 99999, 100), 6)

    def test_no_candidate_costs_less(self):
        rng = random.Random(32)
        for _ in range(200):
            entries = entries_of(rng, 2, rng.randint(4, 12), 9, 4, 2)
            groups = best_split(entries, 2)
            one, other = (naive.joined(*[entries[at] for at in group]) for group in groups)
            cost = (naive.shared(one, other), naive.reach(one) + naive.reach(other))
            self.assertEqual(cost, min(each for each, _ in naive.divisions(entries, 2)))

    def test_entries_stay(self):
        entries = as_lists(points(9, 0, 5, 7))
        kept = copy.deepcopy(entries)
        self.assertEqual(best_split(least=1, entries=entries), naive.best_split(points(9, 0, 5, 7), 1))
        self.assertEqual(entries, kept)


class BestKidTest(unittest.TestCase):
    def check(self, entries, bounds):
        told = naive.best_kid(entries, bounds)
        for shape in (tuple, as_lists, mixed):
            found = best_kid(shape(entries), shape(bounds))
            self.assertEqual((found, type(found)), (told, int), (entries, bounds))

    def test_rows(self):
        for entries, bounds, told in (
            # One alone.
            (points(5), ((90, 90, 0, 0),), 0),
            # Least growth.
            (points(0, 50, 100), ((60, 60, 0, 0),), 1),
            (points(0, 50, 100), ((99, 99, 0, 0),), 2),
            # Equal ones: the least position.
            (points(5, 5, 5), ((9, 9, 0, 0),), 0),
            (points(0, 5, 5), ((9, 9, 0, 0),), 1),
            # Equal growth, different reaches: the least reach, wherever it stands.
            ((((0, 9, 0, 0),), ((5, 9, 0, 0),)), ((11, 11, 0, 0),), 1),
            ((((5, 9, 0, 0),), ((0, 9, 0, 0),)), ((11, 11, 0, 0),), 0),
            # Inside of several: growth 0, the least reach.
            ((((0, 90, 0, 0),), ((10, 30, 0, 0),), ((5, 40, 0, 0),)), ((20, 20, 0, 0),), 1),
            ((((10, 30, 0, 0),), ((20, 40, 0, 0),)), ((25, 25, 0, 0),), 0),
            # Inside of one of them, near to a smaller one.
            (((((0, 90, 0, 0),), ((21, 21, 0, 0),))), ((20, 20, 0, 0),), 0),
            # Growth by the speed alone.
            ((((0, 0, 0, 0),), ((0, 0, 5, 5),)), ((0, 0, 5, 5),), 1),
        ):
            self.assertEqual(best_kid(entries, bounds), told, entries)
            self.check(entries, bounds)

    def test_against_the_definition(self):
        rng = random.Random(33)
        for room, width, most in ((30, 9, 3), (3, 2, 1), (900000, 9999, 100)):
            for _ in range(300):
                axes, many = rng.randint(1, 4), rng.randint(1, 12)
                kinds = [bounds_of(items_of(rng, axes, 2, room, width, most)) for _ in range(many)]
                entries = tuple(rng.choice(kinds) for _ in range(many))
                self.check(entries, bounds_of(items_of(rng, axes, 1, room, width, most)))

    def test_arguments(self):
        entries, bounds = as_lists(points(0, 50)), [[40, 40, 0, 0]]
        self.assertEqual(best_kid(bounds=bounds, entries=entries), 1)
        self.assertEqual((entries, bounds), (as_lists(points(0, 50)), [[40, 40, 0, 0]]))


if __name__ == "__main__":
    unittest.main()
