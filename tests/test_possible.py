"""What possible items can do, which the needed pages and the cuts rest on. [42] [43] [44] [47]"""

import random
import unittest
from fractions import Fraction

import naive
from makers import conditions_of, small_box, speed_of

from boundstead.possible import corner_of, fulfilling_on, is_certain, is_fulfillable_on, least_distance, nearest_on
from boundstead.possible import whole_span, window_of, window_on


def bound_of(rng, room, width, fastest, spread):
    """A bound on one axis."""
    low = rng.randint(-room, room)
    slow = rng.randint(-fastest, fastest)
    return (low, low + rng.randint(0, width), slow, min(fastest, slow + rng.randint(0, spread)))


def fulfils_somewhere(bound, conditions, time, axis):
    """Whether some pair on the axis fulfils all conditions, for any of the speeds tried one by one."""
    low, high, slow, fast = bound
    for rate in range(slow, fast + 1):
        # The least high and the greatest low within the shifted bound that the conditions allow.
        lows, highs = [low + rate * time, high + rate * time], [low + rate * time, high + rate * time]
        for word, box in conditions:
            one, other = box[axis]
            if word == "inside":
                lows[0], highs[1] = max(lows[0], one), min(highs[1], other)
            elif word == "covers":
                lows[1], highs[0] = min(lows[1], one), max(highs[0], other)
            else:
                lows[1], highs[0] = min(lows[1], other), max(highs[0], one)
        if lows[0] <= lows[1] and highs[0] <= highs[1] and lows[0] <= highs[1]:
            return True
    return False


class PossibleTest(unittest.TestCase):
    def check_fulfilling(self, bounds, conditions, time, axis):
        """What fulfils the conditions on the axis is possible, and does."""
        found = fulfilling_on(bounds, conditions, time, axis)
        if found is not None:
            low, high, rate = found
            least, most, slow, fast = bounds[axis]
            self.assertTrue(least <= low <= high <= most and slow <= rate <= fast, (bounds, conditions, time, found))
            pair = (low + rate * time, high + rate * time)
            told = [naive.pair_fulfils(pair, word, box[axis]) for word, box in conditions]
            self.assertTrue(all(told), (bounds, conditions, time, found))

    def test_conditions_against_all_possible_pairs(self):
        rng = random.Random(44)
        results = {}
        for _ in range(6000):
            axes = rng.randint(1, 2)
            room, width = rng.choice(((8, 4), (2, 0), (1, 0)))
            bounds = tuple(bound_of(rng, room, width, 3, width) for _ in range(axes))
            conditions, time = conditions_of(rng, axes, room + 2), rng.choice((0, 0, 1, 2, 3, 5))
            shut = naive.shut_axes(bounds, conditions, time)
            for axis in range(axes):
                found = is_fulfillable_on(bounds, conditions, time, axis)
                self.assertIs(found, axis not in shut, (bounds, conditions, time, axis))
                self.assertIs(found, fulfils_somewhere(bounds[axis], conditions, time, axis))
                self.check_fulfilling(bounds, conditions, time, axis)
            found = is_certain(bounds, conditions, time)
            self.assertIs(found, not naive.may_fail(bounds, conditions, time), (bounds, conditions, time))
            word = conditions[0][0] if len(conditions) == 1 else len(conditions)
            results[(word, bool(shut), found)] = results.get((word, bool(shut), found), 0) + 1
        for word in ("meets", "inside", "covers"):
            for shut, certain in ((True, False), (False, False), (False, True)):
                self.assertGreater(results.get((word, shut, certain), 0), 2, (word, shut, certain))

    def test_conditions_at_the_ends_of_the_ranges(self):
        rng = random.Random(45)
        results = set()
        for _ in range(3000):
            bounds = (bound_of(rng, 500000, 50000, 100, 100),)
            conditions, time = conditions_of(rng, 1, 600000), rng.choice((0, 1, 999, 1000, rng.randint(0, 1000)))
            found = is_fulfillable_on(bounds, conditions, time, 0)
            self.assertIs(found, fulfils_somewhere(bounds[0], conditions, time, 0), (bounds, conditions, time))
            self.check_fulfilling(bounds, conditions, time, 0)
            results.add((len(conditions), found))
        self.assertTrue(results >= {(1, True), (1, False), (2, True), (2, False), (3, True)}, results)

    def test_speeds_are_integers(self):
        # At time 10 the place is one of 0, 10, 20: it never meets 5, nor 13 to 18.
        bounds = ((0, 0, 0, 2),)
        for pair, told in (((5, 5), False), ((13, 18), False), ((13, 20), True), ((9, 10), True), ((21, 99), False)):
            self.assertIs(is_fulfillable_on(bounds, (("meets", (pair,)),), 10, 0), told, pair)
            self.assertEqual(least_distance(bounds, (pair,), 10) == 0, told)
        self.assertEqual(least_distance(bounds, ((14, 14),), 10), 16)
        self.assertEqual(least_distance(bounds, ((16, 16),), 10), 16)
        self.assertEqual(least_distance(bounds, ((17, 17),), 10), 9)

    def test_least_distances(self):
        rng = random.Random(46)
        zeros = 0
        for _ in range(4000):
            axes = rng.randint(1, 3)
            bounds = tuple(bound_of(rng, 10, 3, 3, 4) for _ in range(axes))
            box, time = small_box(rng, axes, 15, 3), rng.choice((0, 1, 2, 5, 9))
            found = least_distance(bounds, box, time)
            self.assertEqual(found, naive.least_distance(bounds, box, time), (bounds, box, time))
            for bound, (one, other) in zip(bounds, box):
                gap, rate = nearest_on(bound, (one, other), time)
                low, high = bound[0] + rate * time, bound[1] + rate * time
                self.assertEqual((gap, bound[2] <= rate <= bound[3]), (max(0, one - high, low - other), True))
            zeros += found == 0
        self.assertTrue(200 < zeros < 3800, zeros)

    def test_corners(self):
        self.assertEqual(corner_of(((0, 5, -3, 4), (-7, 9, 2, 2)), 10), (-30, 13))
        self.assertEqual(corner_of(((0, 5, -3, 4), (-7, 9, 2, 2)), 0), (0, -7))

    def test_windows(self):
        rng = random.Random(47)
        results = {True: 0, False: 0}
        for _ in range(3000):
            axes = rng.randint(1, 4)
            bounds = tuple(bound_of(rng, 20, 4, 4, 3) for _ in range(axes))
            box, rates = small_box(rng, axes, 20, 5), speed_of(rng, axes, 4)
            start, end = sorted((rng.randint(0, 8), rng.randint(0, 8)))
            for each in (rates, (0,) * axes):
                found = window_of(bounds, box, each, start, end)
                told = naive.window(bounds, box, each, start, end)
                self.assertEqual(found and tuple(Fraction(*moment) for moment in found), told)
                results[told is None] += 1
                for axis in range(axes):
                    found = window_on(bounds, box, each, axis, whole_span(start, end))
                    told = naive.window(bounds, box, each, start, end, (axis,))
                    self.assertEqual(found and tuple(Fraction(*moment) for moment in found), told)
        self.assertGreater(min(results.values()), 500)


if __name__ == "__main__":
    unittest.main()
