"""Lots that settle questions, twins against those that do not. [1] [2] [50] to [53]"""

import copy
import random
import unittest

import naive
from groves import NO_QUESTIONS, clustered, convoys, grown, on_line, three_pages, trees
from helpers import as_lists, as_tuples, is_plain, mixed
from makers import conditions_of, items_of, question_of, small_box
from twin_rules import flaws_of_twin, leaves_of, some_twin, subsets, two_pages
from twin_rules import twin_items as items_of_twin

from boundstead.asking import pages_read
from boundstead.errors import BadValue, SpatialError
from boundstead.lots import is_twin, needed, settles, twin_against, twin_items
from boundstead.questions import plain_answer
from boundstead.trees import Tree

KINDS = ("select", "count", "nearest", "skyline")
OTHER_KINDS = (("during", ((0, 1),), 0, 5), ("first", ((0, 1),), (0,), 0, 5), ["during", [[0, 1]], 0, 5])
NO_LOTS = (
    None, True, 0, 1, "", "1", "12", (1, 1), [2, 1, 2], (9,), (1, 9), (0,), (4,), (-1,), (1000,), (True,), (1, True),
    (None,), ("1",), ((1,),), [[]], [[1, 2]], ((),), (1, 2, 3, 1), (10 ** 30,), (False,),
)


def far_trees():
    """Trees at the ends of the ranges, with pages that leave their items little room."""
    ends = ((-1000000, -1000000), (1000000, 1000000), (-1000000, 1000000), (999999, 1000000))
    shapes = [
        [(((-1000000, -1000000),), (-100,))] * 3,
        [(((1000000, 1000000),), (100,))] * 6,
        [((pair,), (speed,)) for pair, speed in zip(ends, (-100, 100, 0, 1))],
        [(((5, 5),), (speed,)) for speed in (-100, 0, 100)],
        [(((5, 6),), (3,)), (((6, 7),), (3,)), (((5, 7),), (3,))],
        [(((0, 9), (-1000000, 1000000)), (100, -100)), (((3, 3), (0, 0)), (100, 100)), (((0, 0), (7, 9)), (99, 0))],
    ]
    for one in shapes:
        yield two_pages(one)
        for other in shapes:
            if len(one[0][0]) == len(other[0][0]):
                yield two_pages(one, other)


class LotTest(unittest.TestCase):
    def error(self, at, call, *args, **named):
        with self.assertRaises(SpatialError) as caught:
            call(*args, **named)
        self.assertEqual((type(caught.exception), caught.exception.at), (BadValue, at))

    def check(self, tree, question, lot):
        """The twin against the lot, or None; everything about it is as [52] tells.

        That pages_read is as [44] tells is tested where it is.
        """
        before = tree.pages()
        need = pages_read(tree, question)
        self.assertEqual(needed(tree, question), need)
        told = set(need) <= set(lot)
        shape = random.Random(len(lot)).choice((tuple, as_lists, mixed))
        self.assertIs(settles(tree, shape(question), shape(lot)), told)
        twin = twin_against(tree, shape(question), shape(lot))
        self.assertEqual(twin is None, told, (before, question, lot))
        if twin is not None:
            self.check_twin(tree, question, lot, twin)
        self.assertEqual(tree.pages(), before)
        return twin

    def check_twin(self, tree, question, lot, twin):
        self.assertTrue(is_plain(twin))
        self.assertEqual(len(twin), 1)
        self.assertEqual(flaws_of_twin(tree, lot, twin), [], (tree.pages(), question, lot, twin))
        for shape in (tuple, as_lists, mixed):
            self.assertIs(is_twin(tree, shape(lot), shape(twin)), True)
            found = twin_items(tree, shape(twin))
            self.assertEqual(found, items_of_twin(tree, twin))
            self.assertTrue(is_plain(found))
        answer = plain_answer(found, question)
        self.assertNotEqual(answer, plain_answer(tree.all_items(), question), (tree.pages(), question, lot, twin))
        self.assertEqual(answer, naive.answer(found, question))


class NeededTest(LotTest):
    def test_as_pages_read(self):
        rng = random.Random(50)
        sizes = set()
        for tree in trees(rng, 2):
            for kind in KINDS:
                for _ in range(3):
                    question = question_of(rng, tree.axes, kind, room=20, last=4)
                    for shape in (tuple, as_lists, mixed):
                        found = needed(tree, shape(question))
                        self.assertEqual(found, pages_read(tree, question))
                        self.assertTrue(is_plain(found))
                    sizes.add((kind, min(len(found), 2)))
        self.assertTrue(sizes >= {(kind, size) for kind in KINDS for size in (1, 2)}, sizes)
        self.assertEqual(needed(question=("skyline", 0), tree=three_pages()), (1,))

    def test_other_values(self):
        for tree in (Tree(1), three_pages()):
            for value in (*NO_QUESTIONS, *OTHER_KINDS):
                self.error(1, needed, tree, value)
        self.error(1, needed, Tree(2), ("nearest", 1, ((0, 1),), 0))


class SettlesTest(LotTest):
    def test_on_three_pages(self):
        tree = three_pages()
        for question, need in (
            (("select", (), 0), (1, 2, 3)),
            (("select", (("meets", ((21, 100),)),), 0), (1, 2)),
            (("select", (("meets", ((22, 99),)),), 0), ()),
            (("count", (), 0), ()),
            (("count", (("inside", ((0, 20),)),), 0), (1,)),
            (("nearest", 4, ((0, 0),), 0), (1, 2)),
            (("nearest", 9, ((0, 0),), 0), (1, 2, 3)),
            (("skyline", 200), (1, 3)),
        ):
            for lot in subsets((1, 2, 3)):
                for order in (lot, lot[::-1], list(lot), list(lot[::-1])):
                    self.assertIs(settles(tree, question, order), set(need) <= set(lot), (question, order))
                self.check(tree, question, lot)

    def test_all_lots_of_small_trees(self):
        rng = random.Random(51)
        for _ in range(40):
            tree = convoys(rng, rng.randint(1, 4), rng.randint(2, 5))
            for kind in KINDS:
                question = question_of(rng, tree.axes, kind, room=20, last=6)
                for lot in subsets(leaves_of(tree)):
                    self.check(tree, question, tuple(rng.sample(lot, len(lot))))

    def test_twins_for_a_lot_that_settles_have_the_same_answer(self):
        rng = random.Random(52)
        for tree in trees(rng, 2):
            for kind in KINDS:
                for _ in range(3):
                    question = question_of(rng, tree.axes, kind, room=20, last=4)
                    told = plain_answer(tree.all_items(), question)
                    for _ in range(3):
                        twin = some_twin(rng, tree, needed(tree, question))
                        self.assertIs(is_twin(tree, needed(tree, question), twin), True)
                        self.assertEqual(plain_answer(twin_items(tree, twin), question), told)

    def test_wrong_arguments(self):
        for call in (settles, twin_against):
            for value in (*NO_QUESTIONS, *OTHER_KINDS):
                for lot in ((), (1,), (True,), None):
                    self.error(1, call, three_pages(), value, lot)
            for lot in NO_LOTS:
                self.error(2, call, three_pages(), ("skyline", 0), lot)
                self.error(2, call, three_pages(), ("nearest", 100, ((0, 0),), 0), lot)
            self.error(2, call, Tree(1), ("skyline", 0), (1,))
            self.error(2, call, question=("skyline", 0), lot=(0, 0), tree=Tree(1))
        self.assertIs(settles(Tree(1), ("skyline", 0), ()), False)
        self.assertIs(settles(Tree(1), ("skyline", 0), [0]), True)


class TwinAgainstTest(LotTest):
    def test_random_trees(self):
        rng = random.Random(53)
        found = {}
        for tree in trees(rng, 3):
            leaves = sorted(leaves_of(tree))
            for kind in KINDS:
                for _ in range(4):
                    question = question_of(rng, tree.axes, kind, room=20, last=4)
                    need = pages_read(tree, question)
                    lots = [(), need, tuple(leaves), tuple(rng.sample(leaves, rng.randint(0, len(leaves))))]
                    if need:
                        lacked = rng.choice(need)
                        lots.append(tuple(number for number in leaves[::-1] if number != lacked))
                    for lot in lots:
                        key = (kind, len(tree.pages()) > 1, self.check(tree, question, lot) is None)
                        found[key] = found.get(key, 0) + 1
        for kind in KINDS:
            for many in (True, False):
                for none in (True, False):
                    self.assertGreater(found.get((kind, many, none), 0), 5, found)

    def test_ends_of_the_ranges(self):
        rng = random.Random(54)
        seen = {}
        for tree in far_trees():
            for _ in range(30):
                time = rng.choice((0, 1, 999, 1000))
                room = rng.choice((10, 1000, 1000000))
                for question in (
                    ("select", conditions_of(rng, tree.axes, room), time),
                    ("count", conditions_of(rng, tree.axes, room), time),
                    ("nearest", rng.randint(1, 10), small_box(rng, tree.axes, room - 8, 8), time),
                    ("skyline", time),
                ):
                    for lot in ((), (1,), (2,)):
                        twin = self.check(tree, question, lot)
                        seen[(question[0], twin is None)] = seen.get((question[0], twin is None), 0) + 1
        self.assertGreater(min(seen.values()), 50)
        self.assertEqual(len(seen), 8)

    def test_items_that_have_no_room_but_their_own(self):
        # On page 1 every item stands still at 5: only keys can change.
        tree = two_pages([(((5, 5),), (0,))] * 4)
        for time in (0, 1, 1000):
            self.check(tree, ("select", (("meets", ((5, 5),)),), time), (2,))
            self.check(tree, ("nearest", 1, ((7, 7),), time), (2,))
            self.check(tree, ("nearest", 4, ((7, 7),), time), (2,))
            self.check(tree, ("skyline", time), (2,))
            self.assertEqual(needed(tree, ("count", (("meets", ((5, 5),)),), time)), ())
            self.assertIsNone(self.check(tree, ("count", (("meets", ((5, 5),)),), time), ()))
            self.assertEqual(needed(tree, ("select", (("meets", ((6, 6),)),), time)), ())

    def test_counts_of_pages_that_may_be_all_or_none(self):
        condition = ("inside", ((0, 9),))
        for shapes in (
            [(((0, 0),), (0,)), (((20, 20),), (0,)), (((5, 5),), (0,))],
            [(((0, 0),), (0,)), (((20, 20),), (0,)), (((15, 15),), (0,))],
            [(((0, 20),), (0,))] * 3,
            [(((0, 20),), (0,))] * 6,
            [(((0, 9),), (0,))] * 5 + [(((0, 10),), (0,))],
            [(((-1, 9),), (0,))] + [(((0, 9),), (0,))] * 5,
            [(((0, 9),), (0,))] * 5 + [(((0, 9),), (1,))],
        ):
            tree = two_pages(shapes)
            for time in (0, 1, 5):
                question = ("count", (condition,), time)
                for lot in ((), (2,)):
                    twin = self.check(tree, question, lot)
                    self.assertEqual(twin is None, needed(tree, question) == ())
        # Several conditions, also such as nothing possible fulfils together.
        rng = random.Random(55)
        needs = set()
        for _ in range(400):
            tree = two_pages([(small_box(rng, 2, 3, 2), (0, rng.randint(-1, 1))) for _ in range(rng.randint(3, 6))])
            question = ("count", conditions_of(rng, 2, 5), rng.randint(0, 3))
            self.check(tree, question, (2,))
            needs.add(needed(tree, question))
        self.assertTrue(needs >= {(), (1,)}, needs)

    def test_nearest_with_as_many_items_as_are_asked_for(self):
        rng = random.Random(56)
        for most in (6, 8):
            for many in (7, 12, 30):
                tree = Tree.packed(1, items_of(rng, 1, many, room=40, width=3), most=most)
                leaves = sorted(leaves_of(tree))
                for asked in (1, many - 1, many, many + 1):
                    for time in (0, 3):
                        question = ("nearest", asked, ((0, 3),), time)
                        for lacked in leaves:
                            self.check(tree, question, tuple(number for number in leaves if number != lacked))
                        self.check(tree, question, ())
                        if asked >= many:
                            self.assertEqual(needed(tree, question), tuple(leaves))

    def test_nearest_ties(self):
        # Page 2 is just as far as the last one asked for, page 3 is one farther.
        rows = (
            (9, 1, (1, 2, 3)),
            (1, 0, on_line((0, 0, 0), (1, 1, 1), (2, 2, 2))),
            (2, 0, on_line((10, -2, -2), (11, -3, -3), (12, -4, -4))),
            (3, 0, on_line((20, 4, 4), (21, 5, 5), (22, 6, 6))),
        )
        tree = Tree.from_pages(1, rows, most=6)
        question = ("nearest", 3, ((0, 0),), 0)
        self.assertEqual(needed(tree, question), (1, 2))
        for lot in subsets((1, 2, 3)):
            self.check(tree, question, lot)

    def test_skylines_with_equal_lows(self):
        rng = random.Random(57)
        needs = {}
        for _ in range(200):
            axes = rng.randint(1, 3)
            rows = []
            for number in (1, 2, 3):
                lows = [rng.randint(0, 1) for _ in range(axes)]
                items = [(10 * number + at, tuple((low, low + rng.randint(0, 2)) for low in lows), (0,) * axes)
                         for at in range(3)]
                rows.append((number, 0, items))
            tree = Tree.from_pages(axes, ((9, 1, (1, 2, 3)), *rows), most=6)
            need = needed(tree, ("skyline", 3))
            needs[len(need)] = needs.get(len(need), 0) + 1
            for lot in subsets((1, 2, 3)):
                self.check(tree, ("skyline", 3), lot)
        self.assertTrue(all(needs.get(size, 0) > 5 for size in (1, 2, 3)), needs)

    def test_lone_leaf_page(self):
        rng = random.Random(58)
        for axes in (1, 2, 3, 4):
            for many in (0, 1, 2, 6, 12):
                items = items_of(rng, axes, many, room=15)
                tree = Tree.packed(axes, items, most=12)
                for kind in KINDS:
                    for last in (0, 4, 1000):
                        question = question_of(rng, axes, kind, room=15, last=last)
                        self.check(tree, question, ())
                        self.assertIsNone(self.check(tree, question, (0,)))
                whole = ((-1000000, 1000000),) * axes
                for word in ("meets", "inside", "covers"):
                    for box in (whole, ((1000000, 1000000),) * axes, ((-3, 3),) * axes):
                        for time in (0, 1000):
                            self.check(tree, ("count", ((word, box),), time), ())
                            self.check(tree, ("select", ((word, box), (word, box)), time), ())
                self.check(tree, ("count", (), 0), ())
                self.check(tree, ("nearest", max(1, many), whole, 1000), ())
                self.check(tree, ("skyline", 1000), ())

    def test_keys_at_the_ends_of_their_range(self):
        items = [(key, ((key % 7, 9),), (0,)) for key in (0, 1, 2, 3, 999999999, 1000000000, 5)]
        tree = Tree.packed(1, items, most=6)
        for question in (("select", (), 0), ("skyline", 0), ("nearest", 7, ((0, 0),), 5)):
            for lot in ((), tuple(sorted(leaves_of(tree)))[1:]):
                self.check(tree, question, lot)

    def test_arguments_stay(self):
        tree, question, lot = three_pages(), ["select", [["meets", [[0, 300]]]], 0], [3, 1]
        kept = copy.deepcopy((question, lot))
        twin = twin_against(tree, question, lot)
        told = copy.deepcopy(twin)
        self.assertEqual((question, lot), kept)
        question[1][0][1][0][0] = 7
        lot.append(2)
        self.assertEqual(twin, told)
        self.assertEqual(twin_against(lot=(3, 1), question=("select", (), 0), tree=tree)[0][0], 2)


class IsTwinTest(LotTest):
    def setUp(self):
        self.tree = three_pages()
        self.row = (2, on_line((10, 100, 101), (11, 105, 111), (12, 120, 121)))

    def check_value(self, told, twin, lot=()):
        for shape in (tuple, as_lists, mixed):
            value = shape(twin) if isinstance(twin, (list, tuple)) else twin
            kept = copy.deepcopy(value)
            self.assertIs(is_twin(self.tree, shape(lot), value), told, twin)
            self.assertEqual(value, kept)
            if lot == () and not told:
                self.error(1, twin_items, self.tree, value)
        self.assertEqual(self.tree, three_pages())

    def test_twins(self):
        self.check_value(True, ())
        self.check_value(True, (self.row,))
        own = leaves_of(self.tree)
        self.check_value(True, tuple(own.items()))
        for lot in subsets((1, 2, 3)):
            self.check_value(True, (), lot)
            self.check_value(2 not in lot, (self.row,), lot)
        other = (1, on_line((0, 0, 1), (7, 20, 21), (1000000000, 3, 3)))
        self.check_value(True, (other, self.row))
        self.check_value(True, (other, self.row), (3,))
        # Keys of pages that the twin names are free, whichever page has them now.
        self.check_value(True, ((1, on_line((10, 0, 1), (11, 10, 11), (12, 20, 21))),
                                (2, on_line((0, 100, 101), (1, 110, 111), (2, 120, 121)))))

    def test_twin_items(self):
        own = self.tree.all_items()
        self.assertEqual(twin_items(self.tree, ()), own)
        self.assertEqual(twin_items(self.tree, []), own)
        self.assertEqual(twin_items(Tree(2), ()), ())
        told = tuple(sorted([item for item in own if not 10 <= item[0] <= 12] + list(self.row[1])))
        for shape in (tuple, as_lists, mixed):
            found = twin_items(twin=shape((self.row,)), tree=self.tree)
            self.assertEqual(found, told)
            self.assertTrue(is_plain(found))
        first = on_line((5, 0, 1), (30, 10, 11), (1000, 20, 21))
        found = twin_items(self.tree, ((1, first),))
        self.assertEqual([key for key, *_ in found], [5, 10, 11, 12, 20, 21, 22, 30, 1000])

    def test_wrong_items(self):
        for items in (
            (), on_line((10, 100, 121)), on_line((10, 100, 101), (11, 120, 121)),
            on_line((10, 100, 101), (11, 110, 111), (12, 120, 121), (13, 110, 111)),
            on_line((10, 101, 101), (11, 110, 111), (12, 120, 121)),
            on_line((10, 99, 101), (11, 110, 111), (12, 120, 121)),
            on_line((10, 100, 101), (11, 110, 111), (12, 120, 120)),
            on_line((10, 100, 101), (11, 110, 111), (12, 120, 122)),
            on_line((10, 100, 101), (11, 110, 111), (12, 120, 121, 1)),
            on_line((10, 100, 101, -1), (11, 110, 111), (12, 120, 121)),
            on_line((11, 100, 101), (10, 110, 111), (12, 120, 121)),
            on_line((10, 100, 101), (10, 110, 111), (12, 120, 121)),
            on_line((0, 100, 101), (11, 110, 111), (12, 120, 121)),
            on_line((10, 100, 101), (11, 110, 111), (22, 120, 121)),
            on_line((-1, 100, 101), (11, 110, 111), (12, 120, 121)),
            on_line((10, 100, 101), (11, 110, 111), (1000000001, 120, 121)),
            on_line((10, 100, 101), (11, 111, 110), (12, 120, 121)),
            on_line((False, 100, 101), (11, 110, 111), (12, 120, 121)),
            tuple((key, box * 2, speed * 2) for key, box, speed in self.row[1]),
            ((10, ((100, 101),), (0,)), (11, ((110, 111),), ()), (12, ((120, 121),), (0,))),
            ((10, ((100, 101),), (0,)), (11, ((110, 111),), (False,)), (12, ((120, 121),), (0,))),
            ((10, ((100, 101),), (0,)), None, (12, ((120, 121),), (0,))),
            ((10, ((100, 101),), (0,)), (11, ((110, 111),)), (12, ((120, 121),), (0,))),
            None, True, "abc", 3,
        ):
            self.check_value(False, ((2, items),))
        # On page 3 the speed is known, too.
        self.check_value(True, ((3, on_line((20, 200, 201, -1), (21, 210, 211, -1), (22, 220, 221, -1))),))
        self.check_value(False, ((3, on_line((20, 200, 201, -1), (21, 210, 211, 0), (22, 220, 221, -1))),))
        self.check_value(False, ((3, on_line((20, 200, 201, -1), (21, 210, 211, -2), (22, 220, 221, -1))),))

    def test_wrong_rows(self):
        items = self.row[1]
        for row in (
            (1, items), (3, items), (9, items), (4, items), (0, items), (-1, items), (1000, items), (True, items),
            (None, items), ("2", items), ((2,), items), (2,), (2, items, items), (2, items, None), (), None, 2, "2,", True,
        ):
            self.check_value(False, (row,))
        root = self.tree.pages()[0]
        self.check_value(False, ((9, root[2]),))
        for value in (None, True, False, 0, 2, "", "twin", "2", ((),), [[]], (None,), self.row):
            self.check_value(False, value)

    def test_wrong_pairs_of_rows(self):
        first = (1, on_line((0, 0, 1), (1, 10, 11), (2, 20, 21)))
        self.check_value(True, (first, self.row))
        self.check_value(False, (self.row, first))
        self.check_value(False, (first, first))
        self.check_value(False, (first, self.row, self.row))
        self.check_value(False, (first, self.row), (1,))
        self.check_value(False, (first, self.row), (2, 3))
        twice = (2, on_line((2, 100, 101), (10, 105, 111), (12, 120, 121)))
        self.check_value(False, (first, twice))
        self.check_value(False, (twice,))
        self.check_value(True, ((1, on_line((0, 0, 1), (1, 10, 11), (3, 20, 21))), twice))

    def test_lone_leaf_page(self):
        for tree in (Tree(1, most=7), Tree.packed(1, on_line((1, 0, 1), (2, 3, 4)), most=7)):
            many = on_line(*[(key, -1000000, 1000000, 100) for key in range(8)])
            for size in range(8):
                self.assertIs(is_twin(tree, (), ((0, many[:size]),)), True)
                self.assertIs(is_twin(tree, [0], [[0, many[:size]]]), False)
                self.assertEqual(twin_items(tree, [[0, as_lists(many[:size])]]), many[:size])
            self.assertIs(is_twin(tree, (), ((0, many),)), False)
            self.assertIs(is_twin(tree, (), ((0, many[1::-1]),)), False)
            self.assertIs(is_twin(tree, (), ((0, on_line((1, 0, 1000001))),)), False)
            self.assertIs(is_twin(tree, (0,), ()), True)
            self.error(1, twin_items, tree, ((0, many),))

    def test_random_changes(self):
        rng = random.Random(59)
        seen = {}
        for tree in trees(rng, 2):
            leaves = sorted(leaves_of(tree))
            for _ in range(25):
                lot = tuple(rng.sample(leaves, rng.randint(0, len(leaves) - 1)))
                twin = as_lists(some_twin(rng, tree, lot))
                self.assertIs(is_twin(tree, lot, twin), True)
                if not twin or not twin[0][1]:
                    continue
                row = rng.choice(twin)
                if not row[1]:
                    continue
                item = rng.choice(row[1])
                axis = rng.randrange(tree.axes)
                change = rng.choice(("low", "high", "speed", "key", "drop", "number"))
                if change == "low":
                    item[1][axis][0] -= 1
                elif change == "high":
                    item[1][axis][1] += 1
                elif change == "speed":
                    item[2][axis] += rng.choice((-1, 1))
                elif change == "key":
                    item[0] = rng.choice([key for key, *_ in tree.all_items()] or [0])
                elif change == "drop":
                    row[1].remove(item)
                else:
                    row[0] = rng.choice(leaves)
                told = not flaws_of_twin(tree, lot, as_tuples(twin))
                self.assertIs(is_twin(tree, lot, twin), told, (tree.pages(), lot, twin))
                seen[(change, told)] = seen.get((change, told), 0) + 1
        self.assertEqual(len(seen), 12, seen)

    def test_no_lot(self):
        for lot in NO_LOTS:
            for twin in ((), (self.row,), None, "x"):
                self.error(1, is_twin, self.tree, lot, twin)
        self.error(1, is_twin, twin=(), lot=(0, 0), tree=Tree(1))
        for tree in (grown(random.Random(1), 2, 30), clustered(random.Random(1), 2, 30)):
            inner = [number for number, level, _ in tree.pages() if level][0]
            self.error(1, is_twin, tree, (inner,), ())


if __name__ == "__main__":
    unittest.main()
