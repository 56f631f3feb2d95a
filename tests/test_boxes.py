"""Boxes. [21] [22]"""

import copy
import itertools
import random
import unittest

from helpers import as_lists, as_tuples, is_plain, mixed, points_of, random_box

from boundstead.boxes import common_box, gap_between, hull_of, inside, is_box, meets, points_in

LIMIT = 1000000
PLACE = 1100000

GOOD = (
    ((0, 0),),
    ((-5, 7),),
    ((-LIMIT, LIMIT),),
    ((-LIMIT, -LIMIT),),
    ((LIMIT, LIMIT),),
    ((0, 1), (2, 3)),
    ((0, 1), (2, 2), (-4, 3)),
    ((0, 1), (2, 3), (4, 5), (6, 7)),
    ((-LIMIT, LIMIT),) * 4,
)

BAD = (
    (),
    [],
    ((0, 1),) * 5,
    ((1, 0),),
    ((0, 1), (3, 2)),
    ((LIMIT, -LIMIT),),
    ((0, LIMIT + 1),),
    ((-LIMIT - 1, 0),),
    ((LIMIT + 1, LIMIT + 1),),
    ((0, 1), (-LIMIT - 1, -LIMIT - 1)),
    ((0,),),
    ((),),
    ((0, 1, 2),),
    ((0, 1), (2,)),
    (0, 1),
    ((0, 1), 5),
    ((0, True),),
    ((False, 1),),
    ((True, True),),
    ((None, 1),),
    ((0, None),),
    (("0", "1"),),
    ((0, "1"),),
    ((0, (1,)),),
    (((0, 1), (2, 3)),),
    ("01",),
    ("ab",),
    ("ab", "cd"),
    ("", ""),
    ((0, 1), None),
    ((0, 1), True),
    ((0, 1), "23"),
    (None,),
    (True,),
    True,
    False,
    None,
    0,
    1,
    -1,
    10 ** 30,
    "",
    "ab",
    "((0, 1),)",
    [[[]]],
)


class IsBoxTest(unittest.TestCase):
    def test_boxes(self):
        for box in GOOD:
            for value in (box, as_lists(box), mixed(box), mixed(box, 1)):
                self.assertIs(is_box(value), True, value)

    def test_no_boxes(self):
        for wrong in BAD:
            for value in (wrong, as_lists(wrong), as_tuples(wrong), mixed(wrong)):
                self.assertIs(is_box(value), False, value)

    def test_each_coordinate_of_each_axis_counts(self):
        for axes in range(1, 5):
            for axis, end in itertools.product(range(axes), range(2)):
                for wrong in (True, None, "0", LIMIT + 1, -LIMIT - 1, (0,)):
                    value = as_lists(((0, 0),) * axes)
                    value[axis][end] = wrong
                    self.assertIs(is_box(value), False, value)

    def test_great_values(self):
        self.assertIs(is_box(((-10 ** 30, 10 ** 30),)), False)
        self.assertIs(is_box([(0, 1)] * 9999), False)
        self.assertIs(is_box("a" * 20000), False)
        deep = 0
        for _ in range(20):
            deep = [deep]
        self.assertIs(is_box(deep), False)

    def test_value_stays_as_it_was(self):
        for value in [as_lists(each) for each in GOOD + BAD]:
            kept = copy.deepcopy(value)
            is_box(value)
            self.assertEqual(value, kept)


# Each row: one, other, meets, one inside other, other inside one, common box, gap.
ROWS = (
    (((0, 5),), ((0, 5),), True, True, True, ((0, 5),), 0),
    (((0, 5),), ((5, 9),), True, False, False, ((5, 5),), 0),
    (((0, 7),), ((8, 9),), False, False, False, None, 1),
    (((7, 7),), ((8, 8),), False, False, False, None, 1),
    (((0, 1),), ((5, 9),), False, False, False, None, 16),
    (((2, 3),), ((0, 9),), True, True, False, ((2, 3),), 0),
    (((0, 3),), ((0, 9),), True, True, False, ((0, 3),), 0),
    (((4, 4),), ((0, 9),), True, True, False, ((4, 4),), 0),
    (((0, 5),), ((3, 9),), True, False, False, ((3, 5),), 0),
    (((-9, -3),), ((-2, 4),), False, False, False, None, 1),
    (((0, 2), (0, 2)), ((2, 4), (2, 4)), True, False, False, ((2, 2), (2, 2)), 0),
    (((0, 2), (0, 2)), ((2, 4), (3, 4)), False, False, False, None, 1),
    (((0, 2), (0, 2)), ((3, 4), (3, 4)), False, False, False, None, 2),
    (((0, 2), (0, 2)), ((5, 9), (6, 9)), False, False, False, None, 25),
    (((0, 9), (3, 4)), ((3, 4), (0, 9)), True, False, False, ((3, 4), (3, 4)), 0),
    (((0, 9), (3, 4)), ((0, 9), (0, 9)), True, True, False, ((0, 9), (3, 4)), 0),
    (((0, 9), (0, 9)), ((0, 9), (11, 12)), False, False, False, None, 4),
    (((0, 0), (0, 0), (0, 0)), ((2, 2), (-3, -3), (6, 6)), False, False, False, None, 49),
    (((0, 0),) * 4, ((2, 3),) * 4, False, False, False, None, 16),
    (((0, 2),) * 4, ((1, 3),) * 4, True, False, False, ((1, 2),) * 4, 0),
    (((-PLACE, -PLACE),), ((PLACE, PLACE),), False, False, False, None, (2 * PLACE) ** 2),
    (((-PLACE, -PLACE),) * 4, ((PLACE, PLACE),) * 4, False, False, False, None, 4 * (2 * PLACE) ** 2),
    (((-PLACE, PLACE),) * 4, ((PLACE, PLACE),) * 4, True, False, True, ((PLACE, PLACE),) * 4, 0),
    (((-PLACE, -LIMIT),), ((-LIMIT, PLACE),), True, False, False, ((-LIMIT, -LIMIT),), 0),
)


class PairsTest(unittest.TestCase):
    def check(self, one, other, row):
        _, _, meet, into, onto, common, gap = row
        self.assertIs(meets(one, other), meet, row)
        self.assertIs(meets(other, one), meet, row)
        self.assertIs(inside(one, other), into, row)
        self.assertIs(inside(other, one), onto, row)
        self.assertEqual(common_box(one, other), common, row)
        self.assertEqual(common_box(other, one), common, row)
        self.assertTrue(is_plain(common_box(one, other)))
        self.assertEqual(gap_between(one, other), gap, row)
        self.assertEqual(gap_between(other, one), gap, row)

    def test_rows(self):
        for row in ROWS:
            for shape in (as_tuples, as_lists, mixed):
                self.check(shape(row[0]), shape(row[1]), row)
            self.check(row[0], as_lists(row[1]), row)

    def test_by_points(self):
        rng = random.Random(22)
        for _ in range(400):
            axes = rng.randint(1, 3)
            one, other = random_box(rng, axes, 0, 5), random_box(rng, axes, 0, 5)
            mine, theirs = points_of(one), points_of(other)
            both = mine & theirs
            self.assertIs(meets(one, other), bool(both))
            self.assertIs(inside(one, other), mine <= theirs)
            common = common_box(one, other)
            self.assertEqual(set() if common is None else points_of(common), both)
            self.assertEqual(points_in(one), len(mine))
            gaps = [sum((a - b) ** 2 for a, b in zip(p, q)) for p in mine for q in theirs]
            self.assertEqual(gap_between(one, other), min(gaps))

    def test_by_name(self):
        one, other = ((0, 3),), ((2, 9),)
        self.assertIs(is_box(value=one), True)
        self.assertIs(meets(other=other, one=one), True)
        self.assertIs(inside(other=((0, 9),), one=one), True)
        self.assertIs(inside(one=((0, 9),), other=one), False)
        self.assertEqual(common_box(other=other, one=one), ((2, 3),))
        self.assertEqual(gap_between(other=((5, 6),), one=one), 4)
        self.assertEqual(points_in(box=one), 4)
        self.assertEqual(hull_of(boxes=[one, other]), ((0, 9),))


class HullTest(unittest.TestCase):
    def test_of_one_box(self):
        for box in GOOD + (((-PLACE, PLACE),) * 4,):
            for shape in (as_tuples, as_lists, mixed):
                hull = hull_of(shape((box,)))
                self.assertEqual(hull, box)
                self.assertTrue(is_plain(hull))

    def test_of_many(self):
        self.assertEqual(hull_of((((0, 1),), ((5, 9),), ((-3, -3),))), ((-3, 9),))
        self.assertEqual(hull_of([[[4, 5], [0, 9]], [[0, 1], [3, 12]]]), ((0, 5), (0, 12)))
        self.assertEqual(hull_of((((-PLACE, 0),), ((0, PLACE),))), ((-PLACE, PLACE),))

    def test_is_the_smallest_that_contains_all(self):
        rng = random.Random(7)
        for many in (1, 2, 3, 10, 200):
            boxes = [random_box(rng, 4, -PLACE, PLACE) for _ in range(many)]
            hull = hull_of(boxes)
            self.assertTrue(is_plain(hull))
            for axis in range(4):
                self.assertEqual(hull[axis][0], min(box[axis][0] for box in boxes))
                self.assertEqual(hull[axis][1], max(box[axis][1] for box in boxes))
            self.assertEqual(hull_of(boxes[::-1]), hull)


class PointsTest(unittest.TestCase):
    def test_numbers(self):
        self.assertEqual(points_in(((5, 5),)), 1)
        self.assertEqual(points_in([[0, 9]]), 10)
        self.assertEqual(points_in(((-2, 2), (0, 1), (7, 7))), 10)
        self.assertEqual(points_in(((-LIMIT, LIMIT),) * 4), 2000001 ** 4)
        self.assertEqual(points_in(((-PLACE, PLACE),) * 4), 2200001 ** 4)


class ArgumentsTest(unittest.TestCase):
    def test_lists_stay_as_they_were(self):
        for row in ROWS:
            one, other = as_lists(row[0]), as_lists(row[1])
            for function in (meets, inside, common_box, gap_between):
                function(one, other)
            hull_of([one, other])
            points_in(one)
            self.assertEqual((as_tuples(one), as_tuples(other)), row[:2])

    def test_later_changes_have_no_effect(self):
        one, other = [[0, 5], [0, 5]], [[0, 5], [0, 5]]
        common, hull = common_box(one, other), hull_of([one, other])
        one[0][0] = other[0][0] = 3
        one.clear()
        self.assertEqual((common, hull), (((0, 5), (0, 5)),) * 2)


if __name__ == "__main__":
    unittest.main()
