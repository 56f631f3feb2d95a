"""Items, their bounds and reaches. [19] [21] [26] [27]"""

import copy
import random
import unittest

import naive
from helpers import as_lists, is_plain, mixed
from makers import items_of

from boundstead.items import bounds_of, is_item, is_possible, joined, reach, shared, widest

LIMIT = 1000000
SHAPES = (lambda value: value, as_lists, mixed, lambda value: mixed(value, 1))

GOOD = (
    (0, ((0, 0),), (0,)),
    (1000000000, ((0, 1),), (1,)),
    (5, ((-LIMIT, LIMIT),), (100,)),
    (5, ((-LIMIT, -LIMIT),), (-100,)),
    (5, ((LIMIT, LIMIT),), (-100,)),
    (7, ((0, 1), (-5, -5)), (100, -100)),
    (7, ((0, 1), (-5, -5), (3, 9)), (0, 1, 2)),
    (7, ((0, 1), (-5, -5), (3, 9), (-LIMIT, LIMIT)), (0, -1, -2, 100)),
)

BAD = (
    (1, ((0, 1),)),
    (1, ((0, 1),), (0,), 0),
    (1, ((0, 1),), (0,), ()),
    (-1, ((0, 1),), (0,)),
    (1000000001, ((0, 1),), (0,)),
    (10 ** 30, ((0, 1),), (0,)),
    (True, ((0, 1),), (0,)),
    (False, ((0, 1),), (0,)),
    (None, ((0, 1),), (0,)),
    ("1", ((0, 1),), (0,)),
    ((1,), ((0, 1),), (0,)),
    (1, True, (0,)),
    (1, None, (0,)),
    (1, "ab", (0,)),
    (1, 5, (0,)),
    (1, ((0, True),), (0,)),
    (1, ((None, 1),), (0,)),
    (1, (("0", "1"),), (0,)),
    (1, (True,), (0,)),
    (1, ("01",), (0,)),
    (1, (None,), (0,)),
    (1, (0, 1), (0,)),
    (1, ((0, 1, 2),), (0,)),
    (1, ((0,),), (0,)),
    (1, ((1, 0),), (0,)),
    (1, ((0, 1), (5, 4)), (0, 0)),
    (1, ((0, LIMIT + 1),), (0,)),
    (1, ((-LIMIT - 1, 0),), (0,)),
    (1, ((0, 1),), True),
    (1, ((0, 1),), None),
    (1, ((0, 1),), "0"),
    (1, ((0, 1),), 0),
    (1, ((0, 1),), (True,)),
    (1, ((0, 1),), (None,)),
    (1, ((0, 1),), ("0",)),
    (1, ((0, 1),), ((0,),)),
    (1, ((0, 1),), (101,)),
    (1, ((0, 1),), (-101,)),
    (1, ((0, 1), (0, 1)), (0, 101)),
    (1, ((0, 1), (0, 1)), (-101, 0)),
    (1, ((0, 1),), (0, 0)),
    (1, ((0, 1),), ()),
    (1, ((0, 1), (0, 1)), (0,)),
    (1, (), ()),
    (1, (), (0,)),
    (1, ((0, 1),) * 5, (0,) * 5),
    (1, ((0, 1),) * 4, (0,) * 5),
    (),
    (1,),
    (None, None, None),
    True,
    None,
    "",
    "abc",
    0,
    [[[]]],
)


class IsItemTest(unittest.TestCase):
    def test_items(self):
        for item in GOOD:
            for shape in SHAPES:
                self.assertIs(is_item(shape(item)), True, item)
            self.assertIs(is_item(value=item), True)

    def test_no_items(self):
        for value in BAD:
            for shape in SHAPES:
                self.assertIs(is_item(shape(value)), False, value)

    def test_unchanged(self):
        for value in (*GOOD, *BAD):
            value = as_lists(value)
            kept = copy.deepcopy(value)
            is_item(value)
            self.assertEqual(value, kept)


class BoundsTest(unittest.TestCase):
    def test_one_item(self):
        for key, box, speed in GOOD:
            told = tuple((low, high, rate, rate) for (low, high), rate in zip(box, speed))
            for shape in SHAPES:
                found = bounds_of(shape(((key, box, speed),)))
                self.assertEqual(found, told)
                self.assertTrue(is_plain(found))
            self.assertEqual(bounds_of(items=[(key, box, speed)]), told)

    def test_two_items(self):
        items = ((3, ((0, 5), (-2, 2)), (1, -1)), (1, ((-4, 1), (-1, 9)), (7, 0)))
        for shape in SHAPES:
            self.assertEqual(bounds_of(shape(items)), ((-4, 5, 1, 7), (-2, 9, -1, 0)))

    def test_many_items(self):
        rng = random.Random(26)
        for axes in (1, 2, 3, 4):
            for many in (1, 2, 7, 200):
                items = items_of(rng, axes, many, room=LIMIT // 2, width=500, most=100)
                told = naive.bounds_of(items)
                for shape in SHAPES:
                    found = bounds_of(shape(items))
                    self.assertEqual(found, told)
                    self.assertTrue(is_plain(found))

    def test_holds_nothing_of_the_argument(self):
        items = as_lists(GOOD[:3])
        kept = copy.deepcopy(items)
        found = bounds_of(items)
        self.assertEqual(items, kept)
        told = copy.deepcopy(found)
        items[0][1][0][0], items[0][2][0] = -77, 99
        self.assertEqual(found, told)


class JoinedTest(unittest.TestCase):
    def test_values(self):
        for one, other, told in (
            (((0, 5, 1, 2),), ((3, 9, -1, 1),), ((0, 9, -1, 2),)),
            (((0, 5, 1, 2),), ((1, 4, 1, 1),), ((0, 5, 1, 2),)),
            (((0, 0, 0, 0), (5, 6, 7, 8)), ((1, 1, 1, 1), (2, 9, 9, 9)), ((0, 1, 0, 1), (2, 9, 7, 9))),
            (((-LIMIT, 0, -100, 0),), ((0, LIMIT, 0, 100),), ((-LIMIT, LIMIT, -100, 100),)),
        ):
            for shape in SHAPES:
                for found in (joined(shape(one), shape(other)), joined(shape(other), shape(one))):
                    self.assertEqual(found, told)
                    self.assertTrue(is_plain(found))
                self.assertEqual(joined(shape(one), shape(one)), one)
            self.assertEqual(joined(other=other, one=one), told)

    def test_bounds_of_both_together(self):
        rng = random.Random(27)
        for _ in range(100):
            axes = rng.randint(1, 4)
            items = items_of(rng, axes, rng.randint(2, 12))
            cut = rng.randint(1, len(items) - 1)
            one, other = bounds_of(items[:cut]), bounds_of(items[cut:])
            self.assertEqual(joined(one, other), bounds_of(items))
            self.assertEqual(joined(other, one), bounds_of(items))

    def test_unchanged(self):
        one, other = [[0, 5, 1, 2]], [[3, 9, -1, 1]]
        found = joined(one, other)
        same = joined(one, one)
        self.assertEqual((one, other), ([[0, 5, 1, 2]], [[3, 9, -1, 1]]))
        one[0][0] = 99
        self.assertEqual((found, same), (((0, 9, -1, 2),), ((0, 5, 1, 2),)))


class WidestTest(unittest.TestCase):
    def test_each_number_of_axes(self):
        self.assertEqual(widest(1), ((-1000000, 1000000, -100, 100),))
        for axes in (1, 2, 3, 4):
            self.assertEqual(widest(axes), ((-LIMIT, LIMIT, -100, 100),) * axes)
            self.assertTrue(is_plain(widest(axes)))
            self.assertEqual(widest(axes=axes), widest(axes))

    def test_every_item_is_possible(self):
        for _, box, speed in GOOD:
            self.assertIs(is_possible(widest(len(box)), box, speed), True)


class IsPossibleTest(unittest.TestCase):
    def check(self, bounds, box, speed, told):
        for shape in SHAPES:
            self.assertIs(is_possible(shape(bounds), shape(box), shape(speed)), told, (bounds, box, speed))
        self.assertIs(is_possible(speed=speed, box=box, bounds=bounds), told)

    def test_at_the_ends_and_one_beyond(self):
        for axes in (1, 2, 3, 4):
            bounds = ((-5, 7, -3, 4),) * axes
            for axis in range(axes):
                for (low, high), rate, told in (
                    ((-5, 7), 0, True),
                    ((-5, -5), 0, True),
                    ((7, 7), 0, True),
                    ((0, 0), -3, True),
                    ((0, 0), 4, True),
                    ((-5, 7), -3, True),
                    ((-6, 7), 0, False),
                    ((-5, 8), 0, False),
                    ((-6, -6), 0, False),
                    ((8, 8), 0, False),
                    ((0, 0), -4, False),
                    ((0, 0), 5, False),
                ):
                    box = [(0, 1)] * axes
                    speed = [0] * axes
                    box[axis], speed[axis] = (low, high), rate
                    self.check(bounds, tuple(box), tuple(speed), told)

    def test_items_and_their_bounds(self):
        rng = random.Random(28)
        for _ in range(100):
            axes = rng.randint(1, 4)
            items = items_of(rng, axes, rng.randint(1, 9))
            for _, box, speed in items:
                self.check(bounds_of(items), box, speed, True)

    def test_unchanged(self):
        bounds, box, speed = [[0, 1, 2, 3]], [[0, 0]], [2]
        self.assertIs(is_possible(bounds, box, speed), True)
        self.assertEqual((bounds, box, speed), ([[0, 1, 2, 3]], [[0, 0]], [2]))


class ReachTest(unittest.TestCase):
    def test_reach(self):
        for bounds, told in (
            (((0, 0, 0, 0),), 1),
            (((0, 0, -1, -1),), 1),
            (((0, 9, 0, 0),), 10),
            (((0, 9, -1, 2),), 13),
            (((0, 9, 2, 2),), 10),
            (((0, 9, -1, 2), (5, 5, 7, 8)), 26),
            (((0, 1, 0, 0),) * 4, 16),
            (widest(1), 2000201),
            (widest(4), 2000201 ** 4),
        ):
            for shape in SHAPES:
                self.assertEqual(reach(shape(bounds)), told)
                self.assertEqual(shared(shape(bounds), shape(bounds)), told)
            self.assertIs(type(reach(bounds=bounds)), int)

    def test_shared(self):
        for one, other, told in (
            (((0, 5, 0, 0),), ((6, 9, 0, 0),), 0),
            (((0, 5, 0, 0),), ((60, 90, 0, 0),), 0),
            (((0, 5, 0, 0),), ((5, 9, 0, 0),), 1),
            (((0, 5, 0, 1),), ((6, 9, 0, 0),), 1),
            (((0, 5, 0, 0),), ((6, 9, -1, 0),), 1),
            (((0, 5, 0, 0),), ((6, 9, 1, 1),), 0),
            (((0, 9, 0, 0),), ((3, 5, -1, 1),), 5),
            (((0, 9, 0, 0),), ((3, 50, 0, 0),), 7),
            (((0, 9, 0, 0), (0, 9, 0, 0)), ((3, 5, 0, 0), (8, 20, 0, 0)), 6),
            (((0, 9, 0, 0), (0, 9, 0, 0)), ((3, 5, 0, 0), (10, 20, 0, 0)), 0),
            (((0, 9, 0, 0), (0, 9, 0, 0)), ((13, 15, 0, 0), (10, 20, 0, 0)), 0),
            (widest(2), ((0, 1, 0, 0), (0, 2, 0, 0)), 6),
        ):
            for shape in SHAPES:
                self.assertEqual(shared(shape(one), shape(other)), told, (one, other))
                self.assertEqual(shared(shape(other), shape(one)), told)
            self.assertIs(type(shared(other=one, one=other)), int)

    def test_against_the_definition(self):
        rng = random.Random(29)
        zeros = 0
        for _ in range(500):
            axes = rng.randint(1, 4)
            one, other = (bounds_of(items_of(rng, axes, 2)) for _ in range(2))
            self.assertEqual(reach(one), naive.reach(one))
            self.assertEqual(shared(one, other), naive.shared(one, other))
            zeros += shared(one, other) == 0
        self.assertTrue(50 < zeros < 450)

    def test_unchanged(self):
        one, other = [[0, 5, 0, 0]], [[5, 9, 0, 0]]
        reach(one)
        shared(one, other)
        self.assertEqual((one, other), ([[0, 5, 0, 0]], [[5, 9, 0, 0]]))


if __name__ == "__main__":
    unittest.main()
