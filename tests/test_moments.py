"""Fractions, places and spans of meeting. [11] [24] [25]"""

import copy
import math
import random
import unittest
from fractions import Fraction

from helpers import as_lists, is_plain, mixed, random_box

from boundstead.errors import BadValue
from boundstead.moments import compare_moments, fraction_of, meeting_span, place_at

NO_INTEGERS = (True, False, None, "", "1", (), (1,), [1], [[]])


class FractionTest(unittest.TestCase):
    def test_values(self):
        for top, bottom, told in (
            (1, 2, (1, 2)),
            (2, 4, (1, 2)),
            (-2, 4, (-1, 2)),
            (2, -4, (-1, 2)),
            (-2, -4, (1, 2)),
            (7, 1, (7, 1)),
            (7, -1, (-7, 1)),
            (7, 7, (1, 1)),
            (12, 4, (3, 1)),
            (0, 5, (0, 1)),
            (0, -5, (0, 1)),
            (0, 1, (0, 1)),
            (1, 10 ** 30, (1, 10 ** 30)),
            (10 ** 30, 10 ** 29, (10, 1)),
            (-10 ** 30, 3 * 10 ** 29, (-10, 3)),
            (2 ** 200 * 3, -2 ** 201, (-3, 2)),
        ):
            self.assertEqual(fraction_of(top, bottom), told)
            self.assertTrue(is_plain(fraction_of(top, bottom)))
            self.assertEqual(fraction_of(bottom=bottom, top=top), told)

    def test_all_small_ones(self):
        for top in range(-30, 31):
            for bottom in [*range(-12, 0), *range(1, 13)]:
                low, under = fraction_of(top, bottom)
                self.assertGreaterEqual(under, 1)
                self.assertEqual(math.gcd(low, under), 1)
                self.assertEqual(low * bottom, top * under)

    def test_bad_values(self):
        for wrong in NO_INTEGERS:
            self.check_bad(0, wrong, 1)
            self.check_bad(0, wrong, 0)
            self.check_bad(1, 1, wrong)
            self.check_bad(1, 0, wrong)
            for also in NO_INTEGERS:
                self.check_bad(0, wrong, also)
        for top in (0, 1, -5, 10 ** 30):
            self.check_bad(1, top, 0)

    def check_bad(self, at, top, bottom):
        with self.assertRaises(BadValue) as caught:
            fraction_of(top, bottom)
        self.assertIs(type(caught.exception.at), int)
        self.assertEqual(caught.exception.at, at)


class CompareTest(unittest.TestCase):
    def test_values(self):
        for one, other, told in (
            ((0, 1), (0, 1), 0),
            ((1, 2), (1, 2), 0),
            ((1, 3), (1, 2), -1),
            ((-1, 3), (-1, 2), 1),
            ((-1, 2), (1, 2), -1),
            ((-1, 2), (0, 1), -1),
            ((-7, 3), (-7, 3), 0),
            ((7, 3), (2, 1), 1),
            ((10 ** 30, 10 ** 30 - 1), (10 ** 30 + 1, 10 ** 30), 1),
            ((10 ** 30, 1), (10 ** 30, 1), 0),
        ):
            for shape in (tuple, list):
                found = compare_moments(shape(one), shape(other))
                self.assertEqual((found, type(found)), (told, int))
                self.assertEqual(compare_moments(other=one, one=other), -told)

    def test_all_small_ones(self):
        fractions = [fraction_of(top, bottom) for top in range(-6, 7) for bottom in range(1, 6)]
        for one in fractions:
            for other in fractions:
                gap = Fraction(*one) - Fraction(*other)
                self.assertEqual(compare_moments(one, other), (gap > 0) - (gap < 0))


class PlaceTest(unittest.TestCase):
    def test_values(self):
        for box, speed, time, told in (
            (((0, 5),), (0,), 1000, ((0, 5),)),
            (((0, 5),), (3,), 0, ((0, 5),)),
            (((0, 5),), (3,), 2, ((6, 11),)),
            (((0, 5),), (-3,), 2, ((-6, -1),)),
            (((1, 2), (3, 4)), (1, -1), 10, ((11, 12), (-7, -6))),
            (((1, 1),) * 4, (0, 1, 2, 3), 5, ((1, 1), (6, 6), (11, 11), (16, 16))),
            (((1000000, 1000000),), (100,), 1000, ((1100000, 1100000),)),
            (((-1000000, 1000000),), (-100,), 1000, ((-1100000, 900000),)),
        ):
            for shape in (tuple, as_lists, mixed):
                place = place_at(shape(box), shape(speed), time)
                self.assertEqual(place, told)
                self.assertTrue(is_plain(place))
            self.assertEqual(place_at(time=time, speed=speed, box=box), told)

    def test_arguments(self):
        box, speed = [[0, 1], [2, 3]], [4, 5]
        place = place_at(box, speed, 1)
        self.assertEqual((box, speed), ([[0, 1], [2, 3]], [4, 5]))
        rests = place_at(box, [0, 0], 0)
        box[0][0], speed[0] = 9, 9
        self.assertEqual((place, rests), (((4, 5), (7, 8)), ((0, 1), (2, 3))))


def meet_at(one, one_speed, other, other_speed, moment):
    """Whether the moving boxes meet at the moment, a Fraction."""
    for (low, high), rate, (far_low, far_high), far_rate in zip(one, one_speed, other, other_speed):
        if low + rate * moment > far_high + far_rate * moment:
            return False
        if far_low + far_rate * moment > high + rate * moment:
            return False
    return True


def searched_span(one, one_speed, other, other_speed, start, end):
    """The span of meeting, found by trying every moment at which it may begin or end."""
    moments = [Fraction(start), Fraction(end)]
    for (low, high), rate, (far_low, far_high), far_rate in zip(one, one_speed, other, other_speed):
        if rate != far_rate:
            moments.append(Fraction(far_high - low, rate - far_rate))
            moments.append(Fraction(far_low - high, rate - far_rate))
    met = [
        moment for moment in moments
        if start <= moment <= end and meet_at(one, one_speed, other, other_speed, moment)
    ]
    if not met:
        return None
    first, last = min(met), max(met)
    return ((first.numerator, first.denominator), (last.numerator, last.denominator))


# Each row: one, its speed, other, its speed, start, end, the span of meeting.
SPANS = (
    # From start to end whole.
    (((0, 5),), (0,), ((5, 9),), (0,), 0, 1000, ((0, 1), (1000, 1))),
    (((0, 50),), (1,), ((20, 30),), (0,), 3, 7, ((3, 1), (7, 1))),
    (((0, 5), (0, 5)), (7, -7), ((5, 5), (0, 0)), (7, -7), 2, 9, ((2, 1), (9, 1))),
    # A part of the span: its begin, its end, the middle.
    (((0, 5),), (1,), ((3, 4),), (0,), 0, 100, ((0, 1), (4, 1))),
    (((0, 5),), (1,), ((30, 40),), (0,), 0, 30, ((25, 1), (30, 1))),
    (((0, 5),), (1,), ((30, 40),), (0,), 0, 100, ((25, 1), (40, 1))),
    (((0, 5),), (-1,), ((-30, -20),), (0,), 0, 100, ((20, 1), (35, 1))),
    (((0, 5),), (2,), ((30, 40),), (1,), 0, 100, ((25, 1), (40, 1))),
    # A single moment: at the start, at the end, in between, on two axes.
    (((0, 5),), (-1,), ((5, 9),), (0,), 0, 100, ((0, 1), (0, 1))),
    (((0, 5),), (1,), ((105, 110),), (0,), 0, 100, ((100, 1), (100, 1))),
    (((0, 0), (0, 0)), (1, 0), ((7, 7), (0, 9)), (0, 0), 0, 100, ((7, 1), (7, 1))),
    (((0, 0), (0, 0)), (2, 0), ((7, 7), (0, 9)), (0, 0), 0, 100, ((7, 2), (7, 2))),
    (((0, 1), (0, 1)), (1, 1), ((5, 9), (-9, 4)), (0, 0), 0, 100, ((4, 1), (4, 1))),
    # An end between two integers, in lowest terms.
    (((0, 0),), (3,), ((1, 2),), (0,), 0, 100, ((1, 3), (2, 3))),
    (((0, 0),), (4,), ((2, 6),), (0,), 0, 100, ((1, 2), (3, 2))),
    (((0, 0),), (50,), ((7, 30),), (-50,), 0, 100, ((7, 100), (3, 10))),
    (((0, 5),), (100,), ((1000000, 1000000),), (-97,), 0, 1000, None),
    (((900000, 900001),), (100,), ((1000000, 1000000),), (-97,), 0, 1000, ((99999, 197), (100000, 197))),
    # Moments between two integers alone.
    (((0, 0),), (10,), ((4, 6),), (0,), 0, 1, ((2, 5), (3, 5))),
    # Equal speeds.
    (((0, 5),), (9,), ((6, 9),), (9,), 0, 1000, None),
    (((0, 5),), (-9,), ((5, 9),), (-9,), 4, 4, ((4, 1), (4, 1))),
    # No such moment on one axis: too late, too early, never.
    (((0, 5),), (1,), ((106, 110),), (0,), 0, 100, None),
    (((0, 5),), (1,), ((-9, -1),), (0,), 0, 100, None),
    (((0, 5), (0, 5)), (1, 0), ((3, 9), (6, 9)), (0, 0), 0, 100, None),
    # On both axes, but never at the same moment.
    (((0, 1), (0, 1)), (1, 1), ((5, 6), (20, 30)), (0, 0), 0, 100, None),
    (((0, 0), (0, 0)), (1, 2), ((5, 5), (11, 12)), (0, 0), 0, 100, None),
    # A span with start equal to end.
    (((0, 5),), (1,), ((8, 9),), (0,), 3, 3, ((3, 1), (3, 1))),
    (((0, 5),), (1,), ((8, 9),), (0,), 2, 2, None),
    (((0, 5),), (1,), ((8, 9),), (0,), 0, 0, None),
    (((0, 5),), (1,), ((5, 9),), (0,), 0, 0, ((0, 1), (0, 1))),
    (((0, 5),), (1,), ((5, 9),), (0,), 1000, 1000, None),
    # Four axes, each of which bounds the span or leaves it.
    (((0, 9),) * 4, (1, -1, 0, 2), ((15, 20), (-30, -8), (9, 9), (0, 50)), (0, 0, 0, 0), 0, 100,
     ((8, 1), (20, 1))),
)


class MeetingTest(unittest.TestCase):
    def test_rows(self):
        for row in SPANS:
            one, one_speed, other, other_speed, start, end, told = row
            for shape in (tuple, as_lists, mixed):
                args = [shape(part) for part in (one, one_speed, other, other_speed)]
                span = meeting_span(*args, start, end)
                self.assertEqual(span, told, row)
                self.assertTrue(is_plain(span))
                self.assertEqual(meeting_span(*args[2:], *args[:2], start, end), told, row)
            self.assertEqual(searched_span(*row[:6]), told, row)

    def test_by_search(self):
        rng = random.Random(25)
        met = 0
        for _ in range(3000):
            axes = rng.randint(1, 4)
            one, other = random_box(rng, axes, -12, 12), random_box(rng, axes, -12, 12)
            one_speed = tuple(rng.randint(-4, 4) for _ in range(axes))
            other_speed = tuple(rng.randint(-4, 4) for _ in range(axes))
            start, end = sorted((rng.randint(0, 6), rng.randint(0, 6)))
            args = (one, one_speed, other, other_speed, start, end)
            span = meeting_span(*args)
            self.assertEqual(span, searched_span(*args), args)
            self.assertEqual(span, meeting_span(other, other_speed, one, one_speed, start, end))
            met += span is not None
        self.assertGreater(met, 500)

    def test_lowest_terms_within_the_span(self):
        rng = random.Random(26)
        for _ in range(500):
            one, other = random_box(rng, 2, -10 ** 6, 10 ** 6), random_box(rng, 2, -10 ** 6, 10 ** 6)
            speeds = [tuple(rng.randint(-100, 100) for _ in range(2)) for _ in range(2)]
            span = meeting_span(one, speeds[0], other, speeds[1], 0, 1000)
            self.assertEqual(span, searched_span(one, speeds[0], other, speeds[1], 0, 1000))
            for top, bottom in span or ():
                self.assertEqual(math.gcd(top, bottom), 1)
                self.assertTrue(0 <= top <= 1000 * bottom)

    def test_by_name_and_unchanged(self):
        one, other, one_speed, other_speed = [[0, 5]], [(30, 40)], [2], [1]
        kept = copy.deepcopy((one, other, one_speed, other_speed))
        span = meeting_span(end=100, start=0, other_speed=other_speed, other=other,
                            one_speed=one_speed, one=one)
        self.assertEqual(span, ((25, 1), (40, 1)))
        self.assertEqual((one, other, one_speed, other_speed), kept)


if __name__ == "__main__":
    unittest.main()
