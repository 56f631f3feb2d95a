"""Trees from rows, and packed trees. [13] [14] [16] [35] [41]"""

import copy
import random
import unittest

from helpers import as_lists, is_plain, mixed
from makers import items_of, small_box, speed_of
from model import ModelTree, flaws_of

from boundstead.errors import BadPages, BadValue, SpatialError
from boundstead.trees import Tree

OTHER_VALUES = (None, True, False, 0, 1, -1, 10 ** 30, "", "ab", (), [], [[]], (None,), ("",), (0, 0, ()))


def page(*lows):
    """Items on one axis whose keys are their lows."""
    return tuple((low, ((low, low),), (0,)) for low in lows)


def full(start, many=3):
    """So many items from start on."""
    return page(*range(start, start + many))


# A tree of three levels, most 6: 18 items on six leaf pages under two inner pages.
DEEP = (
    (50, 2, (10, 20)),
    (10, 1, (1, 5, 999)),
    (1, 0, full(0)),
    (5, 0, full(10)),
    (999, 0, full(20)),
    (20, 1, (0, 2, 3)),
    (0, 0, full(30)),
    (2, 0, full(40)),
    (3, 0, full(50)),
)
FLAT = ((7, 1, (1, 2)), (1, 0, full(0)), (2, 0, full(10)))


class RowsTest(unittest.TestCase):
    def error(self, kind, value, call, *args, **named):
        with self.assertRaises(SpatialError) as caught:
            call(*args, **named)
        self.assertIs(type(caught.exception), kind)
        self.assertEqual(list(vars(caught.exception).values()), value)

    def bad(self, rows, axes=1, most=6):
        for shape in (lambda value: value, as_lists, mixed):
            value = shape(rows)
            kept = copy.deepcopy(value)
            self.error(BadPages, [], Tree.from_pages, axes, value, most=most)
            self.assertEqual(value, kept)

    def good(self, rows, axes=1, most=6):
        for shape in (lambda value: value, as_lists, mixed, lambda value: mixed(value, 1)):
            value = shape(rows)
            tree = Tree.from_pages(axes, value, most=most)
            self.assertEqual(value, shape(rows))
            self.assertEqual(tree.pages(), rows)
            self.assertTrue(is_plain(tree.pages()))
            self.assertEqual((tree.axes, tree.most, tree.root), (axes, most, rows[0][0]))
            items = [item for _, level, entries in rows if level == 0 for item in entries]
            self.assertEqual(flaws_of(tree, items), [])
        return tree


class FromPagesTest(RowsTest):
    def test_small_trees(self):
        for number in (0, 5, 999):
            self.good(((number, 0, ()),))
            self.good(((number, 0, page(3)),))
            self.good(((number, 0, full(0, 6)),))
        self.good(FLAT)
        self.good(DEEP)
        self.good(((7, 1, (1, 2)), (1, 0, full(0, 6)), (2, 0, full(10, 6))))
        self.good(((0, 1, (998, 999)), (998, 0, full(0, 6)), (999, 0, full(10, 12))), most=12)
        self.assertEqual(Tree.from_pages(2, ((0, 0, ()),)).most, 8)
        self.assertEqual(Tree.from_pages(most=7, pages=[[0, 0, []]], axes=3), Tree(3, most=7))

    def test_grown_trees(self):
        rng = random.Random(41)
        levels = set()
        for axes, most, many in ((1, 6, 200), (2, 6, 60), (3, 8, 30), (4, 12, 100), (2, 7, 9), (2, 7, 0)):
            tree = Tree(axes, most=most)
            for key, box, speed in items_of(rng, axes, many, room=100):
                tree.put(key, box, speed=speed)
            levels.add(tree.pages()[0][1])
            same = self.good(tree.pages(), axes, most)
            self.assertEqual(same, tree)
            self.assertEqual(same.directory(), tree.directory())
        self.assertTrue(levels >= {0, 1, 2, 3}, levels)

    def deep_rows(self, level, start):
        """Rows of a least subtree: 3 kids to a page, numbers with gaps; and the next free low."""
        number = 999 - start
        if level == 0:
            return [(number, 0, full(start))], start + 3
        below, kids, at = [], [], start
        for _ in range(3):
            rows, at = self.deep_rows(level - 1, at + 1)
            kids.append((rows[0][0], rows))
        kids.sort()
        for _, rows in kids:
            below.extend(rows)
        return [(number, level, tuple(kid for kid, _ in kids)), *below], at

    def test_four_levels_and_the_same_deeds_on_both(self):
        one, at = self.deep_rows(3, 0)
        other, _ = self.deep_rows(3, at)
        kids = sorted((rows[0][0], rows) for rows in (one, other))
        rows = ((3, 4, tuple(kid for kid, _ in kids)), *kids[0][1], *kids[1][1])
        tree = self.good(rows)
        self.assertEqual((len(tree), rows[0][1]), (162, 4))
        model = ModelTree.of_rows(1, rows, 6)
        rng = random.Random(42)
        keys = [item[0] for item in tree.all_items()]
        for count in range(150):
            if count % 3 == 0:
                key, box = 10000 + count, small_box(rng, 1, 300, 5)
                tree.put(key, box)
                model.put(key, box)
            elif count % 3 == 1:
                key = keys.pop(rng.randrange(len(keys)))
                tree.drop(key)
                model.drop(key)
            else:
                key, speed = rng.choice(keys), speed_of(rng, 1, 3)
                tree.turn(key, 5, speed=speed)
                model.turn(key, 5, speed)
            self.assertEqual(tree.pages(), model.pages())
        self.assertEqual(flaws_of(tree, tree.all_items()), [])

    def test_same_deeds_as_on_the_grown_tree(self):
        rng = random.Random(43)
        for shape in (tuple, as_lists, mixed):
            tree = Tree(2, most=6)
            for key, box, speed in items_of(rng, 2, 70, room=50):
                tree.put(key, box, speed=speed)
            same = Tree.from_pages(2, shape(tree.pages()), most=6)
            for key in rng.sample([item[0] for item in tree.all_items()], 40):
                box = small_box(rng, 2, 50, 5)
                for each in (tree, same):
                    each.drop(key)
                    each.put(key + 5000, box)
                self.assertEqual(same, tree)
                self.assertEqual(same.directory(), tree.directory())

    def test_rows_that_change_behind_the_call(self):
        rows = as_lists(FLAT)
        tree = Tree.from_pages(1, rows, most=6)
        rows[1][2][0][1][0][0] = -77
        rows[0][2].append(9)
        rows.clear()
        self.assertEqual(tree.pages(), FLAT)

    def test_wrong_axes_and_most(self):
        for wrong in (0, 5, True, None, "1", (1,), []):
            self.error(BadValue, [0], Tree.from_pages, wrong, FLAT)
            self.error(BadValue, [0], Tree.from_pages, wrong, None, most=99)
        for wrong in (5, 13, True, None, "8", (8,), []):
            self.error(BadValue, [2], Tree.from_pages, 1, FLAT, most=wrong)
            self.error(BadValue, [2], Tree.from_pages, 1, None, most=wrong)
        with self.assertRaises(TypeError):
            Tree.from_pages(1, FLAT, 6)

    def test_other_values_in_the_place_of_rows(self):
        for value in OTHER_VALUES:
            self.bad(value)
            if value != (0, 0, ()):
                self.bad((value,))
            self.bad((*FLAT, value))
            self.bad((value, *FLAT))
        for at in range(3):
            for value in OTHER_VALUES:
                self.bad((*FLAT[:at], value, *FLAT[at + 1:]))
        for row in FLAT:
            self.bad((row[:2],))
            self.bad(((*row, 0),))

    def test_wrong_numbers_and_levels(self):
        for wrong in (-1, 1000, 10 ** 30, True, False, None, "0", (0,), []):
            self.bad(((wrong, 0, ()),))
            self.bad(((wrong, 0, full(0, 4)),))
            self.bad(((wrong, *FLAT[0][1:]), *FLAT[1:]))
            self.bad(((7, 1, (1, wrong)), FLAT[1], (wrong, 0, full(10))))
        for wrong in (-1, True, False, None, "0", (0,), [], 1, 2, 10 ** 30):
            self.bad(((0, wrong, ()),))
            self.bad(((0, wrong, full(0, 4)),))
            self.bad((FLAT[0], (1, wrong, full(0)), FLAT[2]))
        for wrong in (-1, 0, 2, 3, True, None, 10 ** 30):
            self.bad(((7, wrong, (1, 2)), *FLAT[1:]))
            self.bad(((7, wrong, (1, 2)),))
        # True in the place of 1, and False in that of 0, everywhere.
        self.bad(((7, True, (1, 2)), *FLAT[1:]))
        self.bad(((7, 1, (True, 2)), *FLAT[1:]))
        self.bad((FLAT[0], (True, 0, full(0)), FLAT[2]))
        self.bad((FLAT[0], (1, False, full(0)), FLAT[2]))
        self.bad(((7, 1, (True, 2)), (True, 0, full(0)), FLAT[2]))

    def test_wrong_places(self):
        swapped = (FLAT[0], FLAT[2], FLAT[1])
        self.bad(swapped)
        self.bad(FLAT[::-1])
        self.bad((FLAT[1], FLAT[0], FLAT[2]))
        self.bad(FLAT[1:])
        self.bad(FLAT[:2])
        self.bad(FLAT[:1])
        # A page that is not reached, one twice, one as a kid twice.
        self.bad((*FLAT, (9, 0, full(20))))
        self.bad((*FLAT, FLAT[2]))
        self.bad(((7, 1, (1, 1)), FLAT[1], FLAT[1]))
        self.bad(((7, 1, (1, 2)), FLAT[1], (1, 0, full(10))))
        self.bad(((7, 1, (1, 7)), FLAT[1], (7, 0, full(10))))
        self.bad(((7, 1, (1, 2, 3)), *FLAT[1:]))
        self.bad(((7, 1, (1, 3)), *FLAT[1:]))
        # Rows of the second level before those of the first.
        self.bad((DEEP[0], DEEP[1], DEEP[5], *DEEP[2:5], *DEEP[6:]))
        # One page below both inner pages.
        self.bad((*DEEP[:5], (20, 1, (0, 1, 2)), DEEP[6], (1, 0, full(0)), DEEP[7]))
        self.bad((*DEEP[:5], (20, 1, (0, 1, 2)), DEEP[6], (1, 0, full(60)), DEEP[7]))
        # A page that is its own kid.
        self.bad(((7, 1, (1, 7)), FLAT[1], *FLAT))

    def test_wrong_order_of_entries(self):
        self.bad(((7, 1, (2, 1)), *FLAT[1:]))
        self.bad(((7, 1, (2, 1)), FLAT[2], FLAT[1]))
        self.bad((FLAT[0], (1, 0, page(1, 0, 2)), FLAT[2]))
        self.bad(((0, 0, page(1, 0)),))
        self.bad(((0, 0, page(1, 1)),))
        self.bad((FLAT[0], (1, 0, page(0, 1, 1)), FLAT[2]))

    def test_keys_twice(self):
        self.bad((FLAT[0], FLAT[1], (2, 0, page(2, 10, 11))))
        self.bad((*DEEP[:-1], (3, 0, page(0, 51, 52))))

    def test_wrong_numbers_of_entries(self):
        self.bad(((0, 0, full(0, 7)),))
        self.bad(((7, 1, (1, 2)), (1, 0, full(0, 2)), (2, 0, full(10))))
        self.bad(((7, 1, (1, 2)), (1, 0, ()), (2, 0, full(10))))
        self.bad(((7, 1, (1, 2)), (1, 0, full(0)), (2, 0, full(10, 7))))
        self.bad(((7, 1, (1, 2)), (1, 0, full(0, 5)), (2, 0, full(10, 6))), most=12)
        self.bad(((7, 1, (1,)), FLAT[1]))
        self.bad(((7, 1, ()),))
        self.bad(((7, 2, (6,)), (6, 1, (1, 2, 3)), *FLAT[1:], (3, 0, full(20))))
        many = tuple((number, 0, full(10 * number)) for number in range(7))
        self.bad(((7, 1, tuple(range(7))), *many))
        self.good(((7, 1, tuple(range(6))), *many[:6]))
        # An inner page that is not the root has at least three kids.
        self.bad((DEEP[0], (10, 1, (1, 5)), *DEEP[2:4], *DEEP[5:]))

    def test_kids_of_a_wrong_level(self):
        self.bad(((50, 2, (1, 2)), *FLAT[1:]))
        self.bad(((50, 2, (1, 20)), DEEP[2], *DEEP[5:]))
        self.bad(((50, 3, (10, 20)), *DEEP[1:]))
        self.bad(((50, 1, (10, 20)), *DEEP[1:]))

    def test_wrong_items(self):
        for wrong in (
            None, True, 5, "", (), (1, ((0, 1),)), (1, ((0, 1),), (0,), 0), (-1, ((0, 1),), (0,)),
            (True, ((0, 1),), (0,)), (1, ((1, 0),), (0,)), (1, ((0, 1),), (101,)), (1, ((0, 1),), (0, 0)),
            (1, ((0, 1), (0, 1)), (0, 0)), (1, ((0, 1000001),), (0,)), (1, ((0, True),), (0,)),
        ):
            self.bad(((0, 0, (wrong,)),))
            self.bad((FLAT[0], (1, 0, (wrong, *full(2))), FLAT[2]))
        self.bad(FLAT, axes=2)
        for entries in (None, True, 0, "", "abc", 5):
            self.bad(((0, 0, entries),))
            self.bad(((0, 1, entries),))
            self.bad((FLAT[0], (1, 0, entries), FLAT[2]))

    def test_too_many_items(self):
        rows = [(number, 0, full(100 * number, 12)) for number in range(17)]
        inner = [(100, 1, tuple(range(6))), (101, 1, tuple(range(6, 12))), (102, 1, tuple(range(12, 17)))]
        for last, call in ((8, self.good), (9, self.bad), (12, self.bad)):
            rows[16] = (16, 0, full(1600, last))
            held = (inner[0], *rows[:6], inner[1], *rows[6:12], (102, 1, tuple(range(11, 17))), *rows[11:])
            self.bad(((200, 2, (100, 101, 102)), *held), most=12)
            top = ((200, 2, (100, 101)), (100, 1, tuple(range(8))), *rows[:8], (101, 1, tuple(range(8, 17))), *rows[8:])
            call(top, most=12)


class PackedTest(RowsTest):
    def check(self, rng, axes, items, most):
        tree = Tree.packed(axes, items, most=most)
        self.assertIsInstance(tree, Tree)
        self.assertEqual((tree.axes, tree.most), (axes, most))
        self.assertEqual(flaws_of(tree, items), [])
        leaves = sum(level == 0 for _, level, _ in tree.pages())
        least = 1 if len(items) <= most else -(-len(items) // most)
        self.assertEqual((leaves, len(tree.directory())), (least, least))
        for order, shape in ((sorted(items), tuple), (items[::-1], as_lists), (rng.sample(items, len(items)), mixed)):
            self.assertEqual(Tree.packed(axes, shape(order), most=most), tree)
        self.assertTrue(is_plain(tree.pages()))
        self.assertEqual(Tree.from_pages(axes, tree.pages(), most=most), tree)
        return tree

    def test_every_number_of_items(self):
        rng = random.Random(44)
        for most in (6, 7, 12):
            whole = items_of(rng, 2, 200, room=100)
            for many in range(201):
                self.check(rng, 2, whole[:many], most)

    def test_axes_and_most(self):
        rng = random.Random(45)
        for axes in (1, 2, 3, 4):
            for most in range(6, 13):
                for many in (0, 1, most, most + 1, 2 * most, 2 * most + 1, 50, 200):
                    for room, width, fastest in ((100, 9, 3), (1, 1, 0), (900000, 1000, 100)):
                        self.check(rng, axes, items_of(rng, axes, many, room, width, fastest), most)

    def test_no_item(self):
        for axes in (1, 2, 3, 4):
            for most in range(6, 13):
                for items in ((), []):
                    self.assertEqual(Tree.packed(axes, items, most=most), Tree(axes, most=most))
        self.assertEqual(Tree.packed(items=(), axes=2), Tree(2))

    def test_deeds_on_a_packed_tree(self):
        rng = random.Random(46)
        for most in (6, 9):
            tree = Tree.packed(2, items_of(rng, 2, 120, room=100), most=most)
            model = ModelTree.of_rows(2, tree.pages(), most)
            for key in rng.sample([item[0] for item in tree.all_items()], 60):
                box = small_box(rng, 2, 100, 5)
                tree.drop(key)
                tree.put(key + 2000, box)
                model.drop(key)
                model.put(key + 2000, box)
                self.assertEqual(tree.pages(), model.pages())

    def test_wrong_arguments(self):
        item = (1, ((0, 1),), (0,))
        for wrong in (0, 5, True, None, "1", (1,), []):
            self.error(BadValue, [0], Tree.packed, wrong, ())
            self.error(BadValue, [0], Tree.packed, wrong, None, most=99)
        for wrong in (
            None, True, 0, "", "ab", (None,), (0,), ((),), item, (item, item), (item, (1, ((5, 6),), (0,))),
            ((1, ((0, 1), (0, 1)), (0, 0)),), (item, (2, ((0, 1), (0, 1)), (0, 0))), ((True, ((0, 1),), (0,)),),
            ((1, ((1, 0),), (0,)),), ((1, ((0, 1),), (101,)),), ((1, ((0, 1),)),), tuple(full(0, 201)),
            (*full(0, 100), *full(99, 2)),
        ):
            for shape in (lambda value: value, as_lists):
                self.error(BadValue, [1], Tree.packed, 1, shape(wrong))
                self.error(BadValue, [1], Tree.packed, 1, shape(wrong), most=99)
        for wrong in (5, 13, True, None, "8", (8,), []):
            self.error(BadValue, [2], Tree.packed, 1, (), most=wrong)
            self.error(BadValue, [2], Tree.packed, 1, [item], most=wrong)
        with self.assertRaises(TypeError):
            Tree.packed(1, (), 6)

    def test_items_that_change_behind_the_call(self):
        items = as_lists(full(0, 20))
        tree = Tree.packed(1, items, most=6)
        self.assertEqual(items, as_lists(full(0, 20)))
        before = tree.pages()
        items[0][1][0][0] = -77
        items.clear()
        self.assertEqual(tree.pages(), before)


if __name__ == "__main__":
    unittest.main()
