"""Bounds of joins, checked member by member. [57]"""

import copy
import random
import unittest

from groves import convoys, three_pages
from helpers import as_lists, mixed
from join_rules import Sides, small_pairs
from twin_rules import two_pages

from boundstead.covers import join_bound_holds
from boundstead.errors import BadBound, BadValue, SpatialError
from boundstead.joins import join_bound, join_fewest
from boundstead.trees import Tree


class CoversTest(unittest.TestCase):
    def error(self, kind, at, *args, **named):
        with self.assertRaises(SpatialError) as caught:
            join_bound_holds(*args, **named)
        self.assertEqual((type(caught.exception), caught.exception.at), (kind, at), args[3:])

    def check(self, sides, bound):
        """The position of the first wrong member, or None."""
        told = sides.wrong_member(bound)
        for shape in (tuple, as_lists, mixed):
            value = shape(bound)
            kept = copy.deepcopy(value)
            if told is None:
                self.assertIs(join_bound_holds(*sides.trees, sides.time, value), True)
            else:
                self.error(BadBound, told, *sides.trees, sides.time, value)
            self.assertEqual(value, kept)
        return told

    def test_bounds_of_joins_and_parts_of_them(self):
        sizes = set()
        for rng, sides in small_pairs(62, 100):
            forced, matching = join_bound(*sides.trees, sides.time)
            self.assertIsNone(self.check(sides, (forced, matching)))
            self.assertIsNone(self.check(sides, ((), ())))
            self.assertIsNone(self.check(sides, (forced[::-1], matching[::-1])))
            self.assertIsNone(self.check(sides, (forced[1:], matching)))
            self.assertIsNone(self.check(sides, (forced, matching[1:])))
            sizes.add((min(len(forced), 2), min(len(matching), 2)))
        self.assertTrue(sizes >= {(0, 0), (0, 1), (1, 0), (1, 1), (2, 0)}, sizes)

    def test_random_members(self):
        seen = {}
        for rng, sides in small_pairs(63, 150):
            members = sides.members()
            true = [[each for each in members[at] if sides.is_true(at == 0, each)] for at in (0, 1)]
            for _ in range(12):
                pools = [rng.choice((true[at], true[at], members[at])) or members[at] for at in (0, 1)]
                forced = tuple(rng.choices(pools[0], k=rng.choice((0, 0, 1, 2, 3))))
                matching = tuple(rng.choices(pools[1], k=rng.choice((0, 0, 1, 2))))
                told = self.check(sides, (forced, matching))
                seen[told] = seen.get(told, 0) + 1
                if told is None:
                    # No lot with fewer pages settles the join.
                    least = sum(map(len, join_fewest(*sides.trees, sides.time)))
                    self.assertLessEqual(len(forced) + len(matching), least)
        self.assertTrue(all(seen.get(at, 0) > 15 for at in (None, 0, 1, 2)), seen)
        self.assertGreater(seen.get(3, 0), 5, seen)

    def test_each_side(self):
        # The items of one are within what is possible for other, but not the other way round.
        one = two_pages([(((40, 40),), (0,)), (((50, 50),), (0,)), (((60, 60),), (0,))])
        other = two_pages([(((0, 0),), (0,)), (((0, 0),), (0,)), (((100, 100),), (0,))],
                          [(((-900000, -900000),), (0,))] * 3)
        for bound, told in (
            ((((1, 1, 1),), ()), None),
            ((((0, 1, 1),), ()), 0),
            (((), ((1, 1),)), None),
            (((), ((1, 2),)), 0),
            (((), ((2, 2),)), 0),
            ((((1, 1, 1),), ((1, 1),)), 1),
            ((((1, 1, 1), (1, 1, 1)), ()), 1),
            (((), ((1, 1), (1, 1))), 1),
            ((((1, 1, 1), (0, 1, 1)), ()), 1),
            ((((1, 2, 1),), ((1, 1),)), 0),
            ((((1, 1, 2),), ()), 0),
        ):
            self.assertEqual(self.check(Sides(one, other, 7), bound), told, bound)

    def test_mates_may_be_again_and_sides_are_told_apart(self):
        tree = two_pages([(((0, 9),), (0,))] * 3, [(((5, 5),), (0,))] * 3)
        sides = Sides(tree, tree, 3)
        for bound, told in (
            ((((0, 1, 1), (0, 2, 1)), ()), None),
            ((((0, 1, 1), (1, 1, 1), (0, 2, 1), (1, 2, 1)), ()), None),
            ((((0, 1, 1), (1, 1, 1)), ((2, 2),)), None),
            ((((0, 1, 2), (1, 2, 1)), ((2, 1),)), None),
            ((((0, 1, 2), (1, 1, 1)), ((2, 1),)), 2),
            ((((0, 1, 2),), ((1, 2),)), 1),
            ((((0, 1, 2),), ((2, 1), (2, 2))), 2),
            (((), ((1, 2), (2, 1))), None),
            (((), ((1, 2), (2, 2))), 1),
            (((), ((1, 2), (1, 1))), 1),
        ):
            self.assertEqual(self.check(sides, bound), told, bound)

    def test_wrong_members(self):
        tree = two_pages([(((0, 9),), (0,))] * 3, [(((5, 5),), (0,))] * 3)
        good, pair = (0, 1, 1), (2, 2)
        self.assertIs(join_bound_holds(tree, tree, 0, ((good,), (pair,))), True)
        for member in (
            (2, 1, 1), (-1, 1, 1), (True, 1, 1), (False, 2, 1), (None, 1, 1), ("0", 1, 1), (1, True, 1), (1, 1, True),
            (1, 9, 1), (1, 1, 9), (1, 3, 1), (1, 1, 3), (1, 1), (1, 1, 1, 1), (), None, True, 1, "011", ((0,), 1, 1),
            (1, (1,), 1), (1, [1], [1]), (1, None, 1), (1, 1, None), (1, "1", 1), (10 ** 30, 1, 1), (1, -1, 1),
        ):
            for shape in (tuple, as_lists):
                self.error(BadBound, 1, tree, tree, 0, shape(((good, member), (pair,))))
                self.error(BadBound, 0, tree, tree, 0, shape(((member, good), (pair,))))
        for member in (
            (True, 1), (2, True), (9, 1), (2, 9), (2, 3), (3, 2), (2,), (2, 2, 2), (), None, True, 2, "22", ((2,), 2),
            ([2], [2]), (None, 2), (2, None), (2, "2"), (10 ** 30, 2), (2, -1), (0, 2, 2),
        ):
            for shape in (tuple, as_lists):
                self.error(BadBound, 1, tree, tree, 0, shape(((good,), (member, pair))))
                self.error(BadBound, 2, tree, tree, 0, shape(((good,), (pair, member))))
        # Members stand in their own sequence.
        self.error(BadBound, 1, tree, tree, 0, ((good, pair), ()))
        self.error(BadBound, 0, tree, tree, 0, ((), (good, pair)))
        many = ((good,), (pair,) + ((1, 1),) * 9000)
        self.error(BadBound, 2, tree, tree, 0, many)

    def test_pages_of_the_wrong_tree(self):
        one = two_pages([(((0, 9),), (0,))] * 3, [(((5, 5),), (0,))] * 3)
        other = convoys(random.Random(3), 1, 3)
        leaf = other.directory()[0][0]
        self.assertNotIn(leaf, (1, 2))
        for member in ((0, leaf, 1), (0, 1, 1), (1, leaf, leaf), (1, 1, leaf)):
            self.error(BadBound, 0, one, other, 0, ((member,), ()))
        for member in ((leaf, 1), (leaf, leaf), (1, 1)):
            self.error(BadBound, 0, one, other, 0, ((), (member,)))

    def test_no_pair_of_sequences(self):
        for bound in (
            None, True, False, 0, 1, "", "ab", (), ((),), ((), (), ()), [[]], (None, ()), ((), None), ("", ()), ((), ""),
            (0, 0), ((), 1), (True, False), ("ab", "cd"), [(), "x"],
        ):
            self.error(BadBound, 0, three_pages(), three_pages(), 0, bound)
        for bound in (((), ()), [[], []], ((), []), [(), ()]):
            self.assertIs(join_bound_holds(three_pages(), three_pages(), 0, bound), True)

    def test_values_come_first(self):
        for bound in (None, ((), ()), (((9, 9, 9),), ())):
            self.error(BadValue, 1, Tree(1), Tree(2), 0, bound)
            self.error(BadValue, 1, Tree(1), Tree(2), None, bound)
            for time in (-1, 1001, True, None, "0", (0,)):
                self.error(BadValue, 2, Tree(1), Tree(1), time, bound)
        self.assertIs(join_bound_holds(bound=((), ((0, 0),)), time=1000, other=Tree(3), one=Tree(3)), True)
        self.error(BadBound, 0, Tree(3), Tree(3), 0, (((0, 0, 0),), ()))


if __name__ == "__main__":
    unittest.main()
