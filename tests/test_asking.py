"""Answers of trees, needed pages, ranked items and free space. [12] [17] [42] to [46]"""

import copy
import random
import types
import unittest

import naive
from groves import NO_QUESTIONS, clustered, grown, on_line, three_pages, trees
from helpers import as_lists, is_plain, mixed, points_of
from makers import KINDS, question_of, small_box
from model import known_of

from boundstead.asking import answer, free_space, pages_read, ranked
from boundstead.errors import BadValue, SpatialError, TooMany
from boundstead.questions import plain_answer
from boundstead.trees import Tree


class AskingTest(unittest.TestCase):
    def error(self, kind, value, call, *args, **named):
        with self.assertRaises(SpatialError) as caught:
            call(*args, **named)
        self.assertIs(type(caught.exception), kind)
        self.assertEqual(list(vars(caught.exception).values()), [value])

    def check(self, tree, question):
        """The pages read, which are as [44] tells."""
        before = tree.pages()
        known = known_of(tree)
        leaves = sorted(number for number, level, _ in before if level == 0)
        items = tree.all_items()
        told = tuple(number for number in leaves if naive.is_needed(items, known[number], question))
        value = naive.answer(items, question)
        for shape in (tuple, as_lists, mixed):
            self.assertEqual(answer(tree, shape(question)), value)
            self.assertEqual(pages_read(tree, shape(question)), told, (before, question))
        self.assertEqual(value, plain_answer(items, question))
        self.assertTrue(is_plain(pages_read(question=question, tree=tree)))
        self.assertTrue(is_plain(answer(question=question, tree=tree)))
        self.assertEqual(tree.pages(), before)
        return told


class PagesReadTest(AskingTest):
    def test_each_kind_on_three_pages(self):
        tree = three_pages()
        for question, told in (
            (("select", (), 0), (1, 2, 3)),
            (("select", (("meets", ((0, 99),)),), 0), (1,)),
            (("select", (("meets", ((21, 100),)),), 0), (1, 2)),
            (("select", (("meets", ((22, 99),)),), 0), ()),
            (("select", (("meets", ((22, 99),)),), 1000), ()),
            (("select", (("meets", ((22, 99),)),), 101), (3,)),
            (("select", (("inside", ((0, 0),)),), 0), (1,)),
            (("select", (("covers", ((0, 22),)),), 0), ()),
            (("select", (("covers", ((0, 21),)),), 0), (1,)),
            (("select", (("meets", ((0, 21),)), ("meets", ((110, 110),))), 0), ()),
            (("count", (), 0), ()),
            (("count", (("inside", ((0, 21),)),), 0), ()),
            (("count", (("inside", ((0, 20),)),), 0), (1,)),
            (("count", (("meets", ((-5, 110),)),), 0), (2,)),
            (("count", (("meets", ((-5, 121),)),), 0), ()),
            (("nearest", 1, ((0, 0),), 0), (1,)),
            (("nearest", 3, ((0, 0),), 0), (1,)),
            (("nearest", 4, ((0, 0),), 0), (1, 2)),
            (("nearest", 9, ((0, 0),), 0), (1, 2, 3)),
            (("nearest", 10, ((0, 0),), 0), (1, 2, 3)),
            (("nearest", 1, ((60, 60),), 0), (1,)),
            (("nearest", 1, ((61, 61),), 0), (2,)),
            (("nearest", 1, ((22, 99),), 0), (1, 2)),
            (("skyline", 0), (1,)),
            (("skyline", 199), (1,)),
            (("skyline", 200), (1, 3)),
            (("skyline", 201), (3,)),
            (("during", ((0, 99),), 0, 98), (1,)),
            (("during", ((0, 99),), 0, 101), (1, 3)),
            (("during", ((50, 60),), 0, 139), ()),
            (("during", ((50, 60),), 0, 140), (3,)),
            (("first", ((-10, -6),), (1,), 0, 5), ()),
            (("first", ((-10, -6),), (1,), 0, 6), (1,)),
            (("first", ((-10, -6),), (1,), 0, 1000), (1,)),
            (("first", ((150, 150),), (0,), 0, 28), ()),
            (("first", ((150, 150),), (0,), 0, 1000), (3,)),
            (("first", ((150, 150),), (1,), 0, 1000), (3,)),
            (("first", ((50, 60),), (0,), 0, 139), ()),
        ):
            self.assertEqual(self.check(tree, question), told, question)

    def test_moments_in_between(self):
        # The box meets page 2 from 40 / 3 on, and page 1 from 13 on.
        tree = Tree.from_pages(1, (
            (9, 1, (1, 2)),
            (1, 0, on_line((0, 0, 1), (1, 10, 11), (2, 20, 21))),
            (2, 0, on_line((10, 100, 101), (11, 110, 111), (12, 120, 121))),
        ), most=6)
        self.assertEqual(self.check(tree, ("first", ((60, 60),), (3,), 0, 13)), ())
        self.assertEqual(self.check(tree, ("first", ((60, 60),), (3,), 0, 14)), (2,))
        self.assertEqual(answer(tree, ("first", ((60, 60),), (3,), 0, 14)), ((40, 3), (10,)))
        self.assertEqual(self.check(tree, ("first", ((60, 61),), (-3,), 0, 14)), (1,))

    def test_lone_leaf_page(self):
        for tree in (Tree(1), Tree.from_pages(1, ((5, 0, on_line((1, 0, 1), (2, 10, 11))),))):
            root = (tree.root,)
            for question, told in (
                (("select", (), 0), root),
                (("select", (("meets", ((500, 600),)),), 0), root),
                (("select", (("inside", ((0, 5),)), ("meets", ((6, 9),))), 0), ()),
                (("count", (), 0), root),
                (("count", (("meets", ((-1000000, 1000000),)),), 0), root),
                (("nearest", 1, ((0, 1),), 0), root),
                (("nearest", 100, ((0, 1),), 0), root),
                (("skyline", 7), root),
                (("during", ((500, 600),), 3, 4), root),
                (("first", ((500, 600),), (1,), 3, 4), root),
                (("first", ((0, 0),), (1,), 0, 4), root),
            ):
                value = tuple(number for number in root if number in pages_read(tree, question))
                self.assertEqual((pages_read(tree, question), value), (told, told), question)
                self.assertEqual(answer(tree, question), naive.answer(tree.all_items(), question))

    def test_random_questions(self):
        rng = random.Random(44)
        counts = {}
        for tree in trees(rng, 3):
            for kind in KINDS:
                for _ in range(3):
                    question = question_of(rng, tree.axes, kind, room=20, last=4, most=2)
                    if len(tree.pages()) == 1:
                        value = naive.answer(tree.all_items(), question)
                        self.assertEqual(answer(tree, question), value)
                        continue
                    told = self.check(tree, question)
                    share = (len(told) > 0) + (len(told) == len(tree.directory()))
                    counts[(kind, share)] = counts.get((kind, share), 0) + 1
        for kind in KINDS:
            for share in ((0, 1) if kind in ("select", "count", "during", "first") else (1,)):
                self.assertGreater(counts.get((kind, share), 0), 3, (kind, share, counts))

    def test_large_trees_give_the_answers_of_their_lists(self):
        rng = random.Random(45)
        for axes in (1, 2, 3, 4):
            for tree in (grown(rng, axes, 200, room=50), clustered(rng, axes, 200, room=100)):
                for kind in KINDS:
                    question = question_of(rng, axes, kind, room=50, last=9)
                    self.assertEqual(answer(tree, question), naive.answer(tree.all_items(), question))

    def test_no_question(self):
        for tree in (Tree(1), three_pages()):
            for value in NO_QUESTIONS:
                self.error(BadValue, 1, answer, tree, value)
                self.error(BadValue, 1, pages_read, tree, value)
        for axes in (1, 2, 3, 4):
            tree = Tree(axes)
            for other in (1, 2, 3, 4):
                question = ("nearest", 1, ((0, 1),) * other, 0)
                if other != axes:
                    self.error(BadValue, 1, answer, tree, question)
                    self.error(BadValue, 1, pages_read, tree, question)
                else:
                    self.assertEqual(answer(tree, question), ())


class RankedTest(AskingTest):
    def test_all_items_ascending(self):
        rng = random.Random(46)
        for tree in trees(rng, 2):
            box, time = small_box(rng, tree.axes, 20, 5), rng.randint(0, 5)
            told = sorted((naive.distance(item, box, time), item[0]) for item in tree.all_items())
            for shape in (tuple, as_lists, mixed):
                found = list(ranked(tree, shape(box), time))
                self.assertEqual(found, told)
                self.assertTrue(is_plain(tuple(found)))
            self.assertEqual(list(ranked(time=time, box=box, tree=tree)), told)

    def test_equal_distances_by_key(self):
        tree = Tree.packed(1, on_line((9, 5, 5), (3, -5, -5), (7, 0, 0), (1, 5, 8), (4, 0, 3)))
        self.assertEqual(list(ranked(tree, ((0, 0),), 0)), [(0, 4), (0, 7), (25, 1), (25, 3), (25, 9)])

    def test_a_loop_that_breaks_off(self):
        tree = three_pages()
        self.assertIsInstance(ranked(tree, ((0, 0),), 0), types.GeneratorType)
        seen = []
        for pair in ranked(tree, ((105, 105),), 0):
            seen.append(pair)
            if len(seen) == 2:
                break
        self.assertEqual(seen, [(16, 10), (25, 11)])
        self.assertEqual(len(list(ranked(tree, ((105, 105),), 0))), 9)
        self.assertEqual(list(ranked(Tree(3), ((0, 0),) * 3, 1000)), [])


class FreeSpaceTest(AskingTest):
    def check_space(self, tree, box, time):
        """The pieces, whose points are exactly those of box in no item's place."""
        places = [tuple(naive.place(item, time)) for item in tree.all_items()]
        holes = [
            place for place in places
            if all(low <= other and one <= high for (low, high), (one, other) in zip(place, box))
        ]
        taken = set()
        for hole in holes:
            taken |= points_of(tuple((max(low, one), min(high, other)) for (low, high), (one, other) in zip(hole, box)))
        for shape in (tuple, as_lists, mixed):
            found = free_space(tree, shape(box), time)
            self.assertTrue(is_plain(found))
            points = [point for part in found for point in points_of(part)]
            self.assertEqual(len(points), len(set(points)))
            self.assertEqual(set(points), points_of(box) - taken)
            self.assertLessEqual(len(found), (2 * len(holes) + 1) ** len(box))
        return len(holes)

    def test_no_item(self):
        for axes in (1, 2, 3, 4):
            self.assertEqual(free_space(Tree(axes), ((0, 3),) * axes, 1000), (((0, 3),) * axes,))
        self.assertEqual(free_space(three_pages(), ((30, 90),), 0), (((30, 90),),))
        self.assertEqual(free_space(time=0, box=((10, 11),), tree=three_pages()), ())

    def test_up_to_eight_items(self):
        rng = random.Random(46)
        numbers = set()
        for _ in range(300):
            axes = rng.randint(1, 4)
            room = (12, 6, 4, 3)[axes - 1]
            tree = grown(rng, axes, rng.randint(1, 14), room=room, width=room, fastest=1)
            box, time = small_box(rng, axes, room, room), rng.randint(0, 4)
            met = len(answer(tree, ("select", (("meets", box),), time)))
            if met <= 8:
                numbers.add(self.check_space(tree, box, time))
            else:
                self.error(TooMany, "items", free_space, tree, box, time)
        self.assertTrue(numbers >= {0, 1, 2, 3, 4, 5, 6, 7, 8}, numbers)

    def test_eight_and_nine_items(self):
        tree = Tree.packed(2, [(key, ((key, key + 1), (0, 5)), (0, 1)) for key in range(0, 27, 3)])
        self.assertEqual(self.check_space(tree, ((0, 22), (-1, 6)), 0), 8)
        self.error(TooMany, "items", free_space, tree, ((0, 24), (-1, 6)), 0)
        self.error(TooMany, "items", free_space, tree, [[0, 24], [-1, 6]], 6)
        self.assertEqual(self.check_space(tree, ((0, 24), (-1, 6)), 7), 0)
        self.assertEqual(self.check_space(tree, ((2, 24), (-1, 6)), 3), 8)

    def test_places_out_of_the_range(self):
        tree = Tree.packed(1, on_line((1, 999000, 1000000, 100), (2, -1000000, -1000000, -1)))
        self.assertEqual(free_space(tree, ((999099, 1000000),), 1), (((999099, 999099),),))
        self.assertEqual(free_space(tree, ((-1000000, -999999),), 0), (((-999999, -999999),),))
        self.assertEqual(free_space(tree, ((-1000000, -999999),), 1), (((-1000000, -999999),),))

    def test_wrong_arguments(self):
        crowd = Tree.packed(1, [(key, ((0, 5),), (0,)) for key in range(9)])
        boxes = (
            (), ((0, 1), (2, 3)), ((1, 0),), ((0, 1000001),), ((0, True),), ((0,),), (0, 1), None, True, "", "ab", 5, [[]],
        )
        for tree in (Tree(1), crowd):
            for box in boxes:
                self.error(BadValue, 1, free_space, tree, box, 0)
                self.error(BadValue, 1, free_space, tree, box, None)
            for time in (-1, 1001, True, None, "0", (0,), []):
                self.error(BadValue, 2, free_space, tree, ((0, 1),), time)
        self.error(TooMany, "items", free_space, crowd, ((0, 1),), 0)
        self.error(BadValue, 1, free_space, Tree(2), ((0, 1),), 0)

    def test_arguments_stay(self):
        tree, box = three_pages(), [[0, 30]]
        kept = copy.deepcopy(box)
        found = free_space(tree, box, 0)
        told = copy.deepcopy(found)
        self.assertEqual(box, kept)
        box[0][0] = 7
        self.assertEqual(found, told)


if __name__ == "__main__":
    unittest.main()
