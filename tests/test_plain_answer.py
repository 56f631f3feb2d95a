"""The answers for a plain list of items. [11] [12] [30] to [33]"""

import copy
import random
import unittest

import naive
from groves import on_line
from helpers import as_lists, is_plain, mixed
from makers import KINDS, items_of, question_of

from boundstead.questions import is_question, plain_answer

LIMIT = 1000000


class AnswerTest(unittest.TestCase):
    """What the tests of every kind of question need."""

    def check(self, items, question, told):
        axes = len(items[0][1]) if items else 1
        for order in (items, items[::-1], sorted(items)):
            for shape in (tuple, as_lists, mixed):
                found = plain_answer(shape(order), shape(question))
                self.assertEqual(found, told, (items, question))
                self.assertTrue(is_plain(found))
        if items:
            self.assertIs(is_question(axes, question), True)
            self.assertEqual(naive.answer(items, question), told, (items, question))
        self.assertEqual(plain_answer(question=question, items=items), told)


class SelectTest(AnswerTest):
    def both(self, items, conditions, time, *keys):
        self.check(items, ("select", conditions, time), keys)
        self.check(items, ("count", conditions, time), len(keys))

    def test_no_item(self):
        for conditions in ((), (("meets", ((0, 1),)),), (("covers", ((0, 1), (2, 3))),) * 4):
            self.both((), conditions, 0)

    def test_no_condition(self):
        self.both(on_line((7, 0, 1), (3, 5, 6), (9, -5, 9, 100)), (), 1000, 3, 7, 9)

    def test_each_word(self):
        items = on_line((0, 0, 4), (1, 5, 5), (2, 5, 9), (3, 4, 10), (4, 10, 20), (5, 11, 12), (6, 3, 11), (7, 5, 10))
        pair = ((5, 10),)
        self.both(items, (("meets", pair),), 0, 1, 2, 3, 4, 6, 7)
        self.both(items, (("inside", pair),), 0, 1, 2, 7)
        self.both(items, (("covers", pair),), 0, 3, 6, 7)
        self.both(items, (("meets", pair), ("inside", pair)), 0, 1, 2, 7)
        self.both(items, (("inside", pair), ("covers", pair)), 0, 7)
        self.both(items, (("meets", ((0, 4),)), ("meets", ((10, 20),))), 0, 3, 6)
        self.both(items, (("meets", ((0, 4),)), ("meets", ((10, 20),)), ("inside", ((0, 10),))), 0, 3)
        self.both(items, (("meets", pair), ("inside", ((0, 11),)), ("covers", ((5, 5),)), ("covers", ((9, 9),))), 0,
                  2, 3, 6, 7)

    def test_one_common_point(self):
        items = ((1, ((0, 5), (0, 5)), (0, 0)), (2, ((6, 9), (5, 9)), (0, 0)), (3, ((5, 5), (5, 5)), (0, 0)))
        self.both(items, (("meets", ((5, 9), (5, 9))),), 0, 1, 2, 3)
        self.both(items, (("meets", ((5, 5), (5, 5))),), 0, 1, 3)
        self.both(items, (("meets", ((5, 9), (6, 9))),), 0, 2)

    def test_times(self):
        items = on_line((1, 0, 2, 100), (2, 0, 2, -100), (3, 0, 2))
        self.both(items, (("inside", ((0, 2),)),), 0, 1, 2, 3)
        self.both(items, (("inside", ((0, 2),)),), 1, 3)
        self.both(items, (("meets", ((100000, 100000),)),), 1000, 1)
        self.both(items, (("meets", ((-99998, -99998),)),), 1000, 2)
        self.both(items, (("covers", ((100000, 100002),)),), 1000, 1)
        self.both(items, (("covers", ((100000, 100003),)),), 1000)

    def test_places_out_of_the_range(self):
        items = on_line((1, LIMIT, LIMIT, 100), (2, -LIMIT, LIMIT, 1), (3, LIMIT - 5, LIMIT, -1), (4, -LIMIT, 0, -100))
        self.both(items, (("meets", ((-LIMIT, LIMIT),)),), 1000, 2, 3, 4)
        self.both(items, (("meets", ((LIMIT, LIMIT),)),), 5, 2)
        self.both(items, (("meets", ((LIMIT, LIMIT),)),), 0, 1, 2, 3)
        self.both(items, (("inside", ((-LIMIT, LIMIT),)),), 1, 3)
        self.both(items, (("covers", ((-LIMIT, -LIMIT),)),), 0, 2, 4)
        self.both(items, (("covers", ((-LIMIT, -LIMIT),)),), 1, 4)

    def test_all_axes(self):
        items = tuple((key, ((0, 5),) * 4, tuple(int(at == key) for at in range(4))) for key in range(5))
        self.both(items, (("inside", ((0, 5),) * 4),), 1, 4)
        self.both(items, (("inside", ((0, 6), (0, 5), (0, 5), (0, 6))),), 1, 0, 3, 4)


class NearestTest(AnswerTest):
    def test_no_item(self):
        self.check((), ("nearest", 1, ((0, 1),), 0), ())

    def test_numbers(self):
        items = on_line((5, 0, 1), (6, 10, 11), (7, 20, 21), (8, -9, -9))
        for many, told in (
            (1, ((0, 5),)),
            (2, ((0, 5), (64, 6))),
            (3, ((0, 5), (64, 6), (100, 8))),
            (4, ((0, 5), (64, 6), (100, 8), (324, 7))),
            (5, ((0, 5), (64, 6), (100, 8), (324, 7))),
            (100, ((0, 5), (64, 6), (100, 8), (324, 7))),
        ):
            self.check(items, ("nearest", many, ((1, 2),), 0), told)

    def test_equal_distances(self):
        items = on_line((1, 3, 3), (2, -3, -3), (3, 3, 5), (4, 9, 9), (5, 1, 1), (6, -9, -9), (7, 0, 0))
        for many, told in (
            (1, ((0, 7),)),
            (2, ((0, 7), (1, 5))),
            (3, ((0, 7), (1, 5), (9, 1), (9, 2), (9, 3))),
            (4, ((0, 7), (1, 5), (9, 1), (9, 2), (9, 3))),
            (5, ((0, 7), (1, 5), (9, 1), (9, 2), (9, 3))),
            (6, ((0, 7), (1, 5), (9, 1), (9, 2), (9, 3), (81, 4), (81, 6))),
            (7, ((0, 7), (1, 5), (9, 1), (9, 2), (9, 3), (81, 4), (81, 6))),
        ):
            self.check(items, ("nearest", many, ((0, 0),), 0), told)

    def test_distance_zero(self):
        items = on_line((3, 0, 5), (1, 5, 9), (2, 6, 9), (4, 5, 5))
        self.check(items, ("nearest", 1, ((5, 5),), 0), ((0, 1), (0, 3), (0, 4)))
        self.check(items, ("nearest", 3, ((5, 5),), 0), ((0, 1), (0, 3), (0, 4)))
        self.check(items, ("nearest", 4, ((5, 5),), 0), ((0, 1), (0, 3), (0, 4), (1, 2)))

    def test_squares_over_the_axes(self):
        items = ((1, ((0, 0), (0, 0)), (0, 0)), (2, ((3, 3), (4, 4)), (1, 0)), (3, ((-50, 50), (6, 9)), (0, 0)))
        self.check(items, ("nearest", 2, ((0, 0), (0, 0)), 0), ((0, 1), (25, 2)))
        self.check(items, ("nearest", 2, ((0, 0), (0, 0)), 3), ((0, 1), (36, 3)))
        self.check(items, ("nearest", 3, ((0, 0), (0, 0)), 3), ((0, 1), (36, 3), (52, 2)))

    def test_far_places(self):
        items = on_line((1, LIMIT, LIMIT, 100), (2, -LIMIT, -LIMIT, -100))
        self.check(items, ("nearest", 2, ((-LIMIT, -LIMIT),), 1000), ((100000 ** 2, 2), (2100000 ** 2, 1)))


class SkylineTest(AnswerTest):
    def test_few(self):
        self.check((), ("skyline", 0), ())
        self.check(on_line((5, 0, 1)), ("skyline", 0), (5,))
        self.check(on_line((5, 3, 4), (2, 3, 9), (4, 4, 4)), ("skyline", 0), (2, 5))

    def test_equal_lows(self):
        items = ((4, ((0, 9), (5, 5)), (0, 0)), (2, ((0, 1), (5, 7)), (0, 0)), (1, ((0, 1), (6, 7)), (0, 0)))
        self.check(items, ("skyline", 0), (2, 4))

    def test_beaten_behind_beaten(self):
        items = tuple((key, ((low, low), (depth, depth)), (0, 0)) for key, low, depth in (
            (1, 0, 9), (2, 1, 9), (3, 2, 9), (4, 9, 0), (5, 9, 1), (6, 5, 5), (7, 6, 6), (8, 5, 6), (9, 10, 10),
        ))
        self.check(items, ("skyline", 0), (1, 4, 6))

    def test_moving(self):
        items = on_line((1, 0, 0, 3), (2, 5, 5, 2), (3, 10, 10, 1))
        for time, told in ((0, (1,)), (4, (1,)), (5, (1, 2, 3)), (6, (3,)), (1000, (3,))):
            self.check(items, ("skyline", time), told)

    def test_axes(self):
        for axes in (1, 2, 3, 4):
            items = tuple((key, tuple((int(at == key), 9) for at in range(axes)), (0,) * axes) for key in range(axes))
            self.check(items, ("skyline", 0), (0,) if axes == 1 else tuple(range(axes)))
            least = (77, ((0, 0),) * axes, (0,) * axes)
            self.check((*items, least), ("skyline", 0), (77,))


class DuringTest(AnswerTest):
    def test_rows(self):
        for item, box, start, end, met in (
            ((((0, 5),), (-1,)), ((5, 9),), 0, 10, True),
            ((((0, 5),), (-1,)), ((6, 9),), 0, 10, False),
            ((((0, 5),), (1,)), ((15, 19),), 0, 10, True),
            ((((0, 5),), (1,)), ((16, 19),), 0, 10, False),
            ((((0, 5),), (1,)), ((7, 8),), 4, 10, True),
            ((((0, 5),), (1,)), ((7, 8),), 8, 10, True),
            ((((0, 5),), (1,)), ((7, 8),), 9, 10, False),
            # In a single moment between two integers: 7 / 2.
            ((((0, 0), (0, 1)), (2, 0)), ((7, 7), (0, 9)), 0, 10, True),
            ((((0, 0), (0, 0)), (2, 4)), ((7, 7), (14, 14)), 3, 4, True),
            ((((0, 0), (0, 0)), (2, 4)), ((7, 7), (13, 13)), 3, 4, False),
            # On both axes, but never at the same moment.
            ((((0, 1), (0, 1)), (1, 1)), ((5, 6), (20, 30)), 0, 100, False),
            ((((0, 1), (0, 1)), (1, 1)), ((5, 6), (7, 30)), 0, 100, True),
            # Resting items.
            ((((0, 5),), (0,)), ((5, 9),), 0, 1000, True),
            ((((0, 5),), (0,)), ((6, 9),), 0, 1000, False),
            # Start equal to end.
            ((((0, 5),), (1,)), ((8, 9),), 3, 3, True),
            ((((0, 5),), (1,)), ((8, 9),), 2, 2, False),
            ((((0, 5),), (1,)), ((8, 9),), 0, 0, False),
            ((((0, 5),), (1,)), ((5, 9),), 0, 0, True),
            ((((0, 5),), (100,)), ((100005, 100005),), 1000, 1000, True),
        ):
            self.check(((7, *item),), ("during", box, start, end), (7,) if met else ())

    def test_many(self):
        items = on_line((9, 0, 5, 1), (1, 30, 31), (4, 20, 20, -1), (3, 40, 50, -2), (2, 11, 11, 1))
        self.check((), ("during", ((8, 10),), 0, 5), ())
        self.check(items, ("during", ((8, 10),), 0, 5), (9,))
        self.check(items, ("during", ((8, 10),), 0, 10), (4, 9))
        self.check(items, ("during", ((8, 10),), 0, 15), (3, 4, 9))
        self.check(items, ("during", ((8, 10),), 14, 15), (3,))


class FirstTest(AnswerTest):
    def test_none(self):
        self.check((), ("first", ((0, 1),), (1,), 0, 10), None)
        items = on_line((1, 20, 21), (2, -5, -2, -1))
        self.check(items, ("first", ((0, 1),), (0,), 0, 1000), None)
        # The item would meet just behind the end, at 19.
        self.check(items, ("first", ((0, 1),), (1,), 0, 18), None)
        self.check(items, ("first", ((0, 1),), (1,), 0, 19), ((19, 1), (1,)))
        # At 19 / 2.
        self.check(items, ("first", ((0, 1),), (2,), 0, 9), None)
        self.check(items, ("first", ((0, 1),), (2,), 0, 10), ((19, 2), (1,)))

    def test_at_the_start(self):
        items = on_line((3, 0, 5), (1, 5, 9, -3), (2, 7, 9, -1))
        self.check(items, ("first", ((4, 5),), (0,), 0, 10), ((0, 1), (1, 3)))
        self.check(items, ("first", ((4, 5),), (0,), 7, 10), ((7, 1), (3,)))
        self.check(items, ("first", ((9, 9),), (0,), 0, 10), ((0, 1), (1, 2)))

    def test_between_two_integers(self):
        items = on_line((3, 10, 10, -2), (1, 20, 30, -4), (2, 40, 41, -8))
        self.check(items, ("first", ((0, 3),), (1,), 0, 10), ((7, 3), (3,)))
        self.check(items, ("first", ((0, 3),), (-1,), 0, 10), ((37, 7), (2,)))

    def test_several_at_the_same_moment(self):
        items = on_line((30, 10, 12), (10, -9, -5, 1), (20, 10, 11), (40, 11, 11, -1))
        self.check(items, ("first", ((0, 1),), (1,), 0, 100), ((5, 1), (40,)))
        self.check(items[:3], ("first", ((0, 1),), (1,), 0, 100), ((9, 1), (20, 30)))
        self.check(items[:3], ("first", ((0, 1),), (2,), 0, 100), ((9, 2), (20, 30)))
        self.check(items, ("first", ((0, 1),), (0,), 0, 100), ((5, 1), (10,)))

    def test_the_box_keeps_its_place_at_zero(self):
        items = on_line((1, 50, 60))
        self.check(items, ("first", ((0, 1),), (10,), 3, 100), ((49, 10), (1,)))
        self.check(items, ("first", ((0, 1),), (10,), 5, 100), ((5, 1), (1,)))
        self.check(items, ("first", ((0, 1),), (10,), 7, 100), None)

    def test_example_of_the_document(self):
        items = on_line(*[(key, 10 * key, 10 * key + 1) for key in range(7)], (8, 5, 6, -1))
        self.check(items, ("first", ((-20, -15),), (2,), 0, 9), ((20, 3), (8,)))
        self.check(items[:7], ("select", (("meets", ((0, 5),)),), 0), (0,))


class AllKindsTest(AnswerTest):
    def test_random_ones(self):
        rng = random.Random(33)
        for kind in KINDS:
            answers = set()
            for _ in range(120):
                axes = rng.randint(1, 4)
                items = items_of(rng, axes, rng.choice((1, 2, 5, 12, 25)), room=12, width=6)
                question = question_of(rng, axes, kind, room=12)
                told = naive.answer(items, question)
                answers.add(told)
                self.check(tuple(items), question, told)
            self.assertGreater(len(answers), 5, kind)

    def test_two_hundred_items(self):
        rng = random.Random(34)
        for kind in KINDS:
            for axes in (1, 2, 4):
                items = items_of(rng, axes, 200, room=40, width=9)
                question = question_of(rng, axes, kind, room=40)
                told = naive.answer(items, question)
                for order in (items, sorted(items), sorted(items, key=lambda item: -item[0])):
                    self.assertEqual(plain_answer(order, question), told)

    def test_ends_of_the_ranges(self):
        rng = random.Random(35)
        for kind in KINDS:
            for _ in range(60):
                axes = rng.randint(1, 4)
                items = items_of(rng, axes, 9, room=LIMIT - 100000, width=100000, most=100)
                question = question_of(rng, axes, kind, room=LIMIT // 2 - 10, last=1000, most=100)
                self.check(tuple(items), question, naive.answer(items, question))

    def test_unchanged_and_nothing_kept(self):
        rng = random.Random(36)
        for kind in KINDS:
            items = as_lists(items_of(rng, 2, 20, room=10))
            question = as_lists(question_of(rng, 2, kind, room=10))
            kept = copy.deepcopy((items, question))
            found = plain_answer(items, question)
            told = copy.deepcopy(found)
            self.assertEqual((items, question), kept)
            self.assertEqual(plain_answer(items, question), told)
            for item in items:
                item[1][0][0] = item[2][0] = -99
            self.assertEqual(found, told)


if __name__ == "__main__":
    unittest.main()
