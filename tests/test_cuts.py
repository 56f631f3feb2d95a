"""Cuts. [9] [42] to [44] [47] [48]"""

import random
import unittest

import naive
from groves import NO_QUESTIONS, convoys, crossing, on_line, square, three_pages, trees
from helpers import as_lists, mixed
from makers import KINDS, question_of, small_box
from model import known_of

from boundstead.asking import pages_read
from boundstead.cuts import cut
from boundstead.errors import BadValue, SpatialError
from boundstead.trees import Tree


class CutTest(unittest.TestCase):
    def check(self, tree, question, told):
        for shape in (tuple, as_lists, mixed):
            self.assertEqual(cut(tree, shape(question)), told, question)
        self.assertEqual(cut(question=question, tree=tree), told)

    def test_example_of_the_document(self):
        tree = Tree(1, most=6)
        for key in range(7):
            tree.put(key, ((10 * key, 10 * key + 1),))
        self.check(tree, ("select", (("meets", ((0, 5),)),), 0), "open 2\nread 0\nshut 1 0\n")

    def test_select(self):
        tree = three_pages()
        self.check(tree, ("select", (), 0), "open 9\nread 1\nread 2\nread 3\n")
        self.check(tree, ("select", (("meets", ((0, 99),)),), 0), "open 9\nread 1\nshut 2 0\nshut 3 0\n")
        # What is true of page 2 is not true of the root, but what is true of all of them may be.
        self.check(tree, ("select", (("meets", ((22, 99),)),), 0), "open 9\nshut 1 0\nshut 2 0\nshut 3 0\n")
        self.check(tree, ("select", (("meets", ((300, 400),)),), 0), "shut 9 0\n")
        self.check(tree, ("select", (("covers", ((5, 5),)), ("inside", ((6, 9),))), 0), "shut 9 0\n")

    def test_least_axis(self):
        tree = square()
        for pair, told in (
            (((0, 9), (0, 9)), "open 9\nread 1\nshut 2 0\nshut 3 0\n"),
            (((50, 59), (0, 9)), "open 9\nshut 1 0\nread 2\nshut 3 1\n"),
            (((0, 9), (50, 59)), "open 9\nshut 1 1\nshut 2 0\nshut 3 0\n"),
            (((0, 99), (90, 99)), "shut 9 1\n"),
            (((90, 99), (90, 99)), "shut 9 0\n"),
        ):
            self.check(tree, ("select", (("meets", pair),), 0), told)

    def test_count(self):
        tree = three_pages()
        self.check(tree, ("count", (), 0), "full 9\n")
        self.check(tree, ("count", (("inside", ((0, 20),)),), 0), "open 9\nread 1\nshut 2 0\nshut 3 0\n")
        self.check(tree, ("count", (("inside", ((0, 121),)),), 0), "open 9\nfull 1\nfull 2\nshut 3 0\n")
        self.check(tree, ("count", (("inside", ((-9, 221),)),), 0), "full 9\n")
        self.check(tree, ("count", (("inside", ((-9, 221),)),), 210), "open 9\nfull 1\nfull 2\nread 3\n")
        self.check(tree, ("count", (("inside", ((-9, 221),)),), 201), "open 9\nfull 1\nfull 2\nfull 3\n")
        self.check(tree, ("count", (("inside", ((500, 501),)),), 0), "shut 9 0\n")

    def test_nearest(self):
        tree = three_pages()
        self.check(tree, ("nearest", 1, ((0, 0),), 0), "open 9\nread 1\nfar 2\nfar 3\n")
        self.check(tree, ("nearest", 4, ((0, 0),), 0), "open 9\nread 1\nread 2\nfar 3\n")
        self.check(tree, ("nearest", 9, ((0, 0),), 0), "open 9\nread 1\nread 2\nread 3\n")
        self.check(tree, ("nearest", 10, ((0, 0),), 0), "open 9\nread 1\nread 2\nread 3\n")

    def test_skyline(self):
        self.check(three_pages(), ("skyline", 0), "open 9\nread 1\nbeaten 2 0\nbeaten 3 0\n")
        self.check(three_pages(), ("skyline", 201), "open 9\nbeaten 1 20\nbeaten 2 20\nread 3\n")
        rows = (
            (9, 1, (1, 2, 3)),
            (1, 0, [(7, ((0, 0), (0, 0)), (0, 0)), (8, ((0, 9), (0, 0)), (0, 0)), (9, ((5, 5), (5, 5)), (0, 0))]),
            (2, 0, [(1, ((6, 6), (6, 6)), (0, 0)), (2, ((7, 7), (7, 7)), (0, 0)), (3, ((8, 8), (8, 8)), (0, 0))]),
            (3, 0, [(4, ((-9, -9), (7, 7)), (0, 0)), (5, ((7, 7), (0, 0)), (0, 0)), (6, ((8, 8), (1, 1)), (0, 0))]),
        )
        # 7 and 8 are in the answer and beat page 2; 9 beats it, too, but is beaten; page 3 has an item in the answer.
        self.check(Tree.from_pages(2, rows, most=6), ("skyline", 0), "open 9\nread 1\nbeaten 2 7\nread 3\n")

    def test_during(self):
        self.check(three_pages(), ("during", ((0, 99),), 0, 98), "open 9\nread 1\napart 2 0\napart 3 0\n")
        self.check(three_pages(), ("during", ((500, 600),), 0, 98), "apart 9 0\n")
        self.check(crossing(), ("during", ((1, 5), (1, 5)), 0, 1000), "open 9\nread 1\napart 2 0 1\n")
        self.check(crossing(), ("during", ((1, 5), (1, 5)), 0, 100), "open 9\nread 1\napart 2 1\n")
        self.check(crossing(), ("during", ((1, 5), (1, 5)), 0, 20), "open 9\nread 1\napart 2 0\n")
        self.check(crossing(), ("during", ((1, 5), (1, 5)), 150, 1000), "open 9\nread 1\napart 2 0\n")
        self.check(crossing(), ("during", ((-9, 5), (91, 99)), 0, 1000), "open 9\napart 1 1\nread 2\n")

    def test_least_pair(self):
        near = [(at, ((at, at),) * 4, (0,) * 4) for at in range(3)]
        for lows, told in (
            ((90, 90, 90, 190), "apart 2 0 3"), ((90, 190, 90, 90), "apart 2 0 1"), ((90, 190, 290, 90), "apart 2 0 1"),
            ((90, 90, 190, 190), "apart 2 0 2"), ((2, 90, 90, 190), "apart 2 0 1"),
        ):
            far = [(10 + at, tuple((low + at, low + at) for low in lows), (-1,) * 4) for at in range(3)]
            tree = Tree.from_pages(4, ((9, 1, (1, 2)), (1, 0, near), (2, 0, far)), most=6)
            self.check(tree, ("during", ((1, 5),) * 4, 0, 1000), f"open 9\nread 1\n{told}\n")
        far = [(10 + at, ((1, 1), (1, 1), (90 + at, 90 + at), (190, 190)), (0, 0, -1, -1)) for at in range(3)]
        tree = Tree.from_pages(4, ((9, 1, (1, 2)), (1, 0, near), (2, 0, far)), most=6)
        self.check(tree, ("during", ((1, 5),) * 4, 0, 1000), "open 9\nread 1\napart 2 2 3\n")

    def test_first(self):
        tree = three_pages()
        self.check(tree, ("first", ((-10, -6),), (1,), 0, 2), "late 9\n")
        self.check(tree, ("first", ((-10, -6),), (1,), 0, 5), "open 9\nlate 1\nlate 2\nlate 3\n")
        self.check(tree, ("first", ((-10, -6),), (1,), 0, 6), "open 9\nread 1\nlate 2\nlate 3\n")
        self.check(tree, ("first", ((-10, -6),), (1,), 0, 1000), "open 9\nread 1\nlate 2\nlate 3\n")
        self.check(tree, ("first", ((150, 150),), (0,), 0, 1000), "open 9\nlate 1\nlate 2\nread 3\n")
        # The root's hull is met, no page is.
        self.check(tree, ("first", ((50, 60),), (0,), 0, 139), "open 9\nlate 1\nlate 2\nlate 3\n")

    def test_lone_leaf_page(self):
        for tree in (Tree(2), Tree.from_pages(2, ((0, 0, [(5, ((0, 1), (0, 1)), (0, 0))]),))):
            for question, told in (
                (("select", (), 0), "read 0\n"),
                (("select", (("inside", ((0, 5), (0, 5))), ("meets", ((0, 5), (6, 9)))), 0), "shut 0 1\n"),
                (("count", (), 0), "read 0\n"),
                (("count", (("meets", ((-1000000, 1000000),) * 2),), 0), "read 0\n"),
                (("nearest", 1, ((0, 5), (0, 5)), 0), "read 0\n"),
                (("skyline", 0), "read 0\n"),
                (("during", ((0, 5), (0, 5)), 0, 5), "read 0\n"),
                (("first", ((0, 5), (0, 5)), (0, 0), 0, 5), "read 0\n"),
                (("first", ((90, 95), (0, 5)), (0, 0), 0, 5), "read 0\n"),
            ):
                self.check(tree, question, told)
        empty = Tree.from_pages(1, ((999, 0, ()),))
        self.check(empty, ("skyline", 0), "read 999\n")

    def test_several_levels(self):
        kids = [(number, 0, on_line(*[(100 * number + at, 100 * number + at, 100 * number + at) for at in range(3)]))
                for number in range(6)]
        rows = ((40, 2, (20, 30)), (20, 1, (0, 1, 2)), *kids[:3], (30, 1, (3, 4, 5)), *kids[3:])
        tree = Tree.from_pages(1, rows, most=6)
        self.check(tree, ("select", (("meets", ((0, 5),)),), 0), "open 40\nopen 20\nread 0\nshut 1 0\nshut 2 0\nshut 30 0\n")
        self.check(tree, ("count", (("inside", ((0, 401),)),), 0),
                   "open 40\nfull 20\nopen 30\nfull 3\nread 4\nshut 5 0\n")
        self.check(tree, ("nearest", 2, ((299, 299),), 0),
                   "open 40\nfar 20\nopen 30\nread 3\nfar 4\nfar 5\n")
        self.check(tree, ("skyline", 3), "open 40\nopen 20\nread 0\nbeaten 1 0\nbeaten 2 0\nbeaten 30 0\n")

    def test_random_ones(self):
        rng = random.Random(47)
        words = {}
        for tree in trees(rng, 3):
            rows, known = tree.pages(), known_of(tree)
            for kind in KINDS:
                for _ in range(3):
                    question = question_of(rng, tree.axes, kind, room=20, last=rng.choice((4, 20)), most=2)
                    text = cut(tree, question)
                    lines = text.split("\n")[:-1]
                    read = sorted(int(line[5:]) for line in lines if line.startswith("read "))
                    self.assertEqual(tuple(read), pages_read(tree, question))
                    if len(rows) > 1:
                        self.assertEqual(text, naive.cut(rows, known, question), (rows, question))
                    for line in lines:
                        word = (line.split()[0], len(line.split()))
                        words[word] = words.get(word, 0) + 1
        for _ in range(150):
            tree = convoys(rng, rng.randint(2, 4), 4)
            question = ("during", small_box(rng, tree.axes, 12, 3), 0, 40)
            text = cut(tree, question)
            self.assertEqual(text, naive.cut(tree.pages(), known_of(tree), question))
            for line in text.split("\n")[:-1]:
                word = (line.split()[0], len(line.split()))
                words[word] = words.get(word, 0) + 1
        for word in (("open", 2), ("read", 2), ("shut", 3), ("full", 2), ("far", 2), ("beaten", 3), ("apart", 3),
                     ("apart", 4), ("late", 2)):
            self.assertGreater(words.get(word, 0), 10, words)

    def test_no_question(self):
        for tree in (Tree(1), three_pages()):
            for value in NO_QUESTIONS:
                with self.assertRaises(SpatialError) as caught:
                    cut(tree, value)
                self.assertEqual((type(caught.exception), caught.exception.at), (BadValue, 1))


if __name__ == "__main__":
    unittest.main()
