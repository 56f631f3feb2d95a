"""Trees: making, reading, comparing and copying them. [13] [34] [35] [40]"""

import random
import unittest
import unittest.mock

from helpers import is_plain
from makers import items_of, small_box, speed_of
from model import flaws_of, known_of

from boundstead.errors import BadValue, NoItem, NoPage, SpatialError
from boundstead.trees import Tree

LIMIT = 1000000
NO_NUMBERS = (True, False, None, "", "0", "ab", (), [], (0,), [0], [[]], -1, 1000, 10 ** 30, -10 ** 30)


def grown(rng, axes, most, many, room=100, width=9, fastest=3):
    """A tree with so many random items, put one by one."""
    tree = Tree(axes, most=most)
    for key in rng.sample(range(10 ** 6), many):
        tree.put(key, small_box(rng, axes, room, width), speed=speed_of(rng, axes, fastest))
    return tree


class TreeTest(unittest.TestCase):
    def error(self, kind, value, call, *args, **named):
        with self.assertRaises(SpatialError) as caught:
            call(*args, **named)
        self.assertIs(type(caught.exception), kind)
        held = list(vars(caught.exception).values())[0]
        self.assertEqual((held, type(held)), (value, type(value)))

    def test_new_trees(self):
        for axes in (1, 2, 3, 4):
            self.assertEqual(Tree(axes).most, 8)
            for most in range(6, 13):
                tree = Tree(axes=axes, most=most)
                self.assertEqual((tree.axes, tree.most, tree.root), (axes, most, 0))
                self.assertEqual((len(tree), tree.all_items(), tree.pages()), (0, (), ((0, 0, ()),)))
                self.assertEqual(tree.known(0), (None, ((-LIMIT, LIMIT, -100, 100),) * axes))
                self.assertEqual(tree.directory(), ((0, None, ((-LIMIT, LIMIT, -100, 100),) * axes),))

    def test_wrong_axes_and_most(self):
        for wrong in (0, 5, -1, 10 ** 30, True, False, None, "", "1", (1,), [1], [[]]):
            self.error(BadValue, 0, Tree, wrong)
            self.error(BadValue, 0, Tree, wrong, most=wrong)
            self.error(BadValue, 0, Tree, axes=wrong, most=6)
        for wrong in (5, 13, 0, -6, 10 ** 30, True, False, None, "", "8", (8,), [8], [[]]):
            self.error(BadValue, 1, Tree, 1, most=wrong)
        with self.assertRaises(TypeError):
            Tree(1, 8)

    def test_properties_are_read(self):
        tree = Tree(2, most=7)
        for name in ("axes", "most", "root"):
            self.assertIsInstance(getattr(Tree, name), property)
            with self.assertRaises(AttributeError):
                setattr(tree, name, 3)

    def test_length_and_keys(self):
        rng = random.Random(34)
        tree = grown(rng, 2, 6, 50)
        keys = [item[0] for item in tree.all_items()]
        self.assertEqual((len(tree), len(keys)), (50, 50))
        for key in keys:
            self.assertIs(key in tree, True)
        missing = next(key for key in range(100) if key not in keys)
        for value in (missing, -1, 10 ** 30, True, False, None, "", str(keys[0]), (keys[0],), [keys[0]], [[]], (), tree):
            self.assertIs(value in tree, False)
        low = Tree(1)
        low.put(1, ((0, 0),))
        low.put(0, ((0, 0),))
        for value, told in ((1, True), (0, True), (True, False), (False, False), ([1], False), ((), False)):
            self.assertIs(value in low, told)
        low.drop(1)
        self.assertIs(1 in low, False)

    def test_equal_trees(self):
        rng = random.Random(35)
        tree = grown(rng, 2, 6, 40)
        same = Tree.from_pages(2, tree.pages(), most=6)
        self.assertIs(tree == same, True)
        self.assertIs(tree != same, False)
        self.assertIs(tree == tree, True)
        item = tree.all_items()[7]
        same.drop(item[0])
        self.assertIs(tree == same, False)
        self.assertIs(tree != same, True)
        self.assertIs(Tree(1) == Tree(1, most=8), True)
        self.assertIs(Tree(1) == Tree(2), False)
        self.assertIs(Tree(1) == Tree(1, most=9), False)
        self.assertIs(Tree.from_pages(1, ((0, 0, ()),)) == Tree(1), True)
        self.assertIs(Tree.from_pages(1, ((1, 0, ()),)) == Tree(1), False)

    def test_same_items_on_other_pages(self):
        items = [(key, ((key, key),), (0,)) for key in range(10)]
        one = Tree.from_pages(1, ((9, 1, (1, 2)), (1, 0, items[:5]), (2, 0, items[5:])))
        for rows in (
            ((9, 1, (1, 2)), (1, 0, items[:4]), (2, 0, items[4:])),
            ((9, 1, (1, 3)), (1, 0, items[:5]), (3, 0, items[5:])),
            ((8, 1, (1, 2)), (1, 0, items[:5]), (2, 0, items[5:])),
            ((9, 1, (1, 2)), (1, 0, items[5:]), (2, 0, items[:5])),
        ):
            self.assertIs(one == Tree.from_pages(1, rows), False)
        self.assertIs(one == Tree.from_pages(1, one.pages()), True)
        self.assertIs(one == Tree.from_pages(1, one.pages(), most=9), False)

    def test_nothing_else_is_equal(self):
        tree = Tree(1)
        for value in (None, True, 0, 1, "", (), [], tree.pages(), (1, 8, tree.pages()), unittest.mock.ANY, object()):
            self.assertIs(tree == value, False)
            self.assertIs(tree != value, True)

    def test_items(self):
        rng = random.Random(36)
        items = items_of(rng, 3, 60)
        tree = Tree(3, most=6)
        for count, (key, box, speed) in enumerate(items):
            tree.put(key, box, speed=speed)
            self.assertEqual(tree.all_items(), tuple(sorted(items[:count + 1])))
        for item in items:
            self.assertEqual(tree.item(item[0]), item)
            self.assertTrue(is_plain(tree.item(key=item[0])))
        self.assertTrue(is_plain(tree.all_items()))
        for wrong in (-1, 10 ** 9 + 1, True, None, "", (1,), [1], [[]]):
            self.error(BadValue, 0, tree.item, wrong)
        self.error(NoItem, 10 ** 9, tree.item, 10 ** 9)
        self.error(NoItem, 0, Tree(1).item, 0)

    def test_pages(self):
        tree = Tree(1, most=6)
        for key in range(6):
            tree.put(5 - key, ((key, key),), speed=(1,))
        self.assertEqual(tree.pages(), ((0, 0, tuple((key, ((5 - key, 5 - key),), (1,)) for key in range(6))),))
        rng = random.Random(37)
        for axes, most, many in ((1, 6, 200), (2, 6, 150), (4, 12, 90), (3, 8, 9)):
            tree = grown(rng, axes, most, many)
            self.assertEqual(flaws_of(tree, tree.all_items()), [])
            self.assertTrue(is_plain(tree.pages()))
            self.assertEqual(tree.pages(), tree.pages())

    def test_known(self):
        rng = random.Random(38)
        for axes, most, many in ((1, 6, 200), (2, 6, 150), (3, 8, 60), (4, 12, 13)):
            tree = grown(rng, axes, most, many)
            told = known_of(tree)
            self.assertEqual(told[tree.root][0], many)
            for number, known in told.items():
                self.assertEqual(tree.known(number), known)
                self.assertTrue(is_plain(tree.known(number=number)))
            leaves = sorted(number for number, level, _ in tree.pages() if level == 0)
            self.assertEqual(tree.directory(), tuple((number, *told[number]) for number in leaves))
            self.assertTrue(is_plain(tree.directory()))

    def test_known_of_a_lone_page(self):
        for axes in (1, 2, 3, 4):
            tree = Tree.from_pages(axes, ((77, 0, [(5, ((0, 1),) * axes, (0,) * axes)]),))
            self.assertEqual(tree.known(77), (None, ((-LIMIT, LIMIT, -100, 100),) * axes))
            self.assertEqual(tree.directory(), ((77, *tree.known(77)),))
            self.error(NoPage, 0, tree.known, 0)

    def test_known_follows_the_deeds(self):
        rng = random.Random(39)
        tree = grown(rng, 2, 6, 60)
        for key in [item[0] for item in tree.all_items()][:55]:
            if key % 3:
                tree.drop(key)
            else:
                tree.turn(key, 4, speed=(1, -1))
            told = known_of(tree)
            self.assertEqual({number: tree.known(number) for number in told}, told)
            gone = [number for number in range(100) if number not in told]
            for number in gone:
                self.error(NoPage, number, tree.known, number)

    def test_no_page(self):
        rng = random.Random(40)
        for tree in (Tree(1), grown(rng, 2, 6, 50)):
            numbers = [row[0] for row in tree.pages()]
            for value in NO_NUMBERS:
                self.error(NoPage, value, tree.known, value)
            for number in range(1000):
                if number not in numbers:
                    self.error(NoPage, number, tree.known, number)
        self.assertTrue({0, 1} <= set(numbers))
        value = [1, [2]]
        with self.assertRaises(NoPage) as caught:
            tree.known(value)
        self.assertIs(caught.exception.number, value)

    def test_copies(self):
        rng = random.Random(41)
        for tree in (Tree(1, most=6), grown(rng, 2, 6, 80), grown(rng, 4, 9, 7)):
            other = tree.copy()
            self.assertIsInstance(other, Tree)
            self.assertEqual(other, tree)
            self.assertEqual((other.axes, other.most, other.root), (tree.axes, tree.most, tree.root))
            self.assertEqual((other.pages(), other.directory()), (tree.pages(), tree.directory()))
            before, known = tree.pages(), known_of(tree)
            for item in other.all_items()[::2]:
                other.drop(item[0])
            other.put(10 ** 9, ((0, 1),) * tree.axes)
            self.assertEqual(tree.pages(), before)
            self.assertEqual({number: tree.known(number) for number in known}, known)
            self.assertIs(10 ** 9 in tree, False)
            self.assertNotEqual(other, tree)
            kept = other.pages()
            tree.put(10 ** 9 - 1, ((0, 1),) * tree.axes)
            self.assertEqual(other.pages(), kept)


if __name__ == "__main__":
    unittest.main()
