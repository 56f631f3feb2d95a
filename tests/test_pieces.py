"""The free parts of a box, and the points that boxes cover. [17] [23]"""

import copy
import itertools
import random
import unittest

from helpers import as_lists, is_plain, mixed, points_of, random_box

from boundstead.boxes import covered, inside, is_box, meets, pieces, points_in

LIMIT = 1000000
PLACE = 1100000


def small_cases():
    """Pairs of a small box and up to eight holes, which may lie over or outside of its sides."""
    rng = random.Random(23)
    for axes, width, many in ((1, 12, 200), (2, 6, 150), (3, 4, 80), (4, 3, 40)):
        for at in range(many):
            box = random_box(rng, axes, 0, width)
            holes = [random_box(rng, axes, -2, width + 2) for _ in range(at % 9)]
            if at % 5 == 4:
                holes = (holes + holes)[:8]
            yield box, holes


class PiecesTest(unittest.TestCase):
    def check(self, box, holes):
        parts = pieces(box, holes)
        self.assertTrue(is_plain(parts))
        self.assertIs(type(parts), tuple)
        self.assertLessEqual(len(parts), (2 * len(holes) + 1) ** len(box))
        for part in parts:
            self.assertEqual(len(part), len(box))
            self.assertTrue(all(low <= high for low, high in part))
            self.assertTrue(inside(part, box))
            self.assertFalse(any(meets(part, hole) for hole in holes))
        for one, other in itertools.combinations(parts, 2):
            self.assertFalse(meets(one, other))
        return parts

    def check_points(self, box, holes):
        free = points_of(box)
        for hole in holes:
            free = free - points_of(hole)
        met = [point for part in self.check(box, holes) for point in points_of(part)]
        self.assertEqual(len(met), len(set(met)))
        self.assertEqual(set(met), free)

    def test_no_hole(self):
        for box in (((0, 5),), ((0, 0), (3, 9)), ((-LIMIT, LIMIT),) * 4):
            for value in (box, as_lists(box), mixed(box)):
                self.assertEqual(pieces(value, ()), (box,))
                self.assertEqual(pieces(value, []), (box,))
                self.assertTrue(is_plain(pieces(value, [])))

    def test_hole_that_is_the_box_or_more(self):
        for axes in range(1, 5):
            box = ((2, 4),) * axes
            for hole in (box, ((1, 4),) * axes, ((2, 9),) * axes, ((-PLACE, PLACE),) * axes):
                self.assertEqual(pieces(box, (hole,)), ())
                self.assertEqual(pieces(as_lists(box), as_lists((hole, hole))), ())

    def test_hole_outside(self):
        for hole in (((6, 9), (0, 5)), ((0, 5), (-9, -1)), ((6, 6), (6, 6))):
            self.assertEqual(points_of(((0, 5), (0, 5))),
                             set().union(*[points_of(p) for p in self.check(((0, 5), (0, 5)), (hole,))]))

    def test_on_one_axis(self):
        self.assertEqual(sorted(pieces(((0, 9),), (((3, 4),),))), [((0, 2),), ((5, 9),)])
        self.assertEqual(sorted(pieces([[0, 9]], [[[0, 4]]])), [((5, 9),)])
        self.assertEqual(sorted(pieces(((0, 9),), (((5, 12),),))), [((0, 4),)])
        self.assertEqual(sorted(pieces(((0, 9),), (((9, 9),), ((0, 0),)))), [((1, 8),)])

    def test_named_cases(self):
        box = ((0, 4), (0, 4))
        for holes in (
            [((2, 2), (2, 2))],
            [((0, 0), (0, 0)), ((4, 4), (4, 4))],
            [((-3, 1), (-3, 1)), ((3, 8), (3, 8))],
            [((-3, 9), (2, 2))],
            [((1, 3), (1, 3))] * 8,
            [((1, 3), (1, 3)), ((2, 2), (2, 2))],
            [((2, 2), (2, 2)), ((1, 3), (1, 3))],
            [((0, 4), (1, 1)), ((0, 4), (3, 3)), ((1, 1), (0, 4)), ((3, 3), (0, 4))],
            [((at % 3, at % 3 + 1), (at // 3, at // 3)) for at in range(8)],
        ):
            self.check_points(box, holes)

    def test_by_points(self):
        for box, holes in small_cases():
            self.check_points(box, holes)

    def test_plates_that_make_a_grid(self):
        for axes in range(1, 5):
            wide = ((-LIMIT, LIMIT),) * axes
            holes = [
                wide[:at % axes] + ((100 * at, 100 * at + 1),) + wide[at % axes + 1:]
                for at in range(8)
            ]
            self.check(wide, holes)
            self.assertEqual(sum(map(points_in, pieces(wide, holes))) + covered(holes), points_in(wide))

    def test_as_wide_as_the_range(self):
        rng = random.Random(5)
        for axes in range(1, 5):
            wide = ((-LIMIT, LIMIT),) * axes
            for many in (1, 3, 8):
                holes = [random_box(rng, axes, -LIMIT, LIMIT) for _ in range(many)]
                parts = pieces(wide, holes)
                self.assertLessEqual(len(parts), (2 * many + 1) ** axes)
                self.assertTrue(all(is_box(part) for part in parts))
                self.assertEqual(sum(map(points_in, parts)) + covered(holes), points_in(wide))

    def test_box_and_holes_that_are_places(self):
        box = ((-PLACE, PLACE), (LIMIT, PLACE))
        parts = self.check(box, [((-PLACE, 0), (LIMIT, PLACE)), ((PLACE, PLACE), (PLACE, PLACE))])
        self.assertEqual(sum(map(points_in, parts)), PLACE * 100001 - 1)

    def test_arguments(self):
        box, holes = [[0, 9], [0, 9]], [[[3, 4], (5, 6)], ([8, 12], [0, 9])]
        kept = copy.deepcopy((box, holes))
        parts = pieces(holes=holes, box=box)
        self.assertEqual((box, holes), kept)
        self.assertEqual(parts, pieces(box, holes))
        self.assertEqual(parts, pieces(((0, 9), (0, 9)), (((3, 4), (5, 6)), ((8, 12), (0, 9)))))
        whole = pieces(box, [])
        box[0][0] = 7
        self.assertEqual(whole, (((0, 9), (0, 9)),))


class CoveredTest(unittest.TestCase):
    def test_named_cases(self):
        self.assertEqual(covered(()), 0)
        self.assertEqual(covered([]), 0)
        self.assertEqual(covered((((3, 3),),)), 1)
        self.assertEqual(covered([[[0, 9]], [[0, 9]]]), 10)
        self.assertEqual(covered((((0, 9),),) * 8), 10)
        self.assertEqual(covered((((0, 5),), ((3, 9),))), 10)
        self.assertEqual(covered((((0, 1),), ((3, 4),), ((6, 9),))), 8)
        self.assertEqual(covered((((0, 1), (0, 1)), ((1, 2), (1, 2)))), 7)
        self.assertEqual(covered([((0, 9), (4, 5)), [[4, 5], [0, 9]]]), 36)

    def test_whole_range(self):
        for axes in range(1, 5):
            wide = ((-LIMIT, LIMIT),) * axes
            self.assertEqual(covered((wide,)), 2000001 ** axes)
            self.assertEqual(covered([wide] * 8), 2000001 ** axes)
            self.assertEqual(covered((((-LIMIT, 0),) * axes, wide)), 2000001 ** axes)

    def test_places(self):
        self.assertEqual(covered((((-PLACE, -LIMIT),), ((LIMIT, PLACE),))), 200002)

    def test_by_points(self):
        for box, holes in small_cases():
            self.assertEqual(covered(holes), len(set().union(*[points_of(hole) for hole in holes])))

    def test_order_does_not_matter(self):
        rng = random.Random(9)
        boxes = [random_box(rng, 3, -PLACE, PLACE) for _ in range(8)]
        for _ in range(20):
            many = covered(boxes)
            rng.shuffle(boxes)
            self.assertEqual(covered(boxes), many)

    def test_arguments(self):
        boxes = [[[0, 9], (0, 9)], ([3, 12], [0, 2])]
        kept = copy.deepcopy(boxes)
        self.assertEqual(covered(boxes=boxes), 109)
        self.assertEqual(boxes, kept)


if __name__ == "__main__":
    unittest.main()
