"""Checking cuts. [9] [10] [19] [47] [49] [50]"""

import copy
import random
import unittest

import naive
from groves import NO_QUESTIONS, convoys, crossing, on_line, square, three_pages, trees, twin_of
from helpers import as_lists, mixed
from makers import KINDS, question_of, small_box
from model import known_of

from boundstead.asking import answer, pages_read
from boundstead.checking import cut_holds
from boundstead.cuts import cut
from boundstead.errors import BadCut, BadValue, SpatialError
from boundstead.trees import Tree

NO_TEXTS = (None, True, False, 0, 1, 10 ** 30, (), [], ("read 0\n",), ["open 9\n"], [[]])


def result(tree, question, told, text):
    """True, False, or the number that BadCut keeps, in a list."""
    try:
        return cut_holds(tree, question, told, text)
    except BadCut as error:
        assert type(error.at) is int
        return [error.at]


def wider_text(rng, tree, question):
    """A cut with true reasons, chosen by chance, that may open and read more than is needed."""
    rows, known = tree.pages(), known_of(tree)
    read = naive.needed_items(rows, known, question)

    def choose(page):
        reasons = naive.true_reasons(page, question, read)
        return rng.choice(reasons) if reasons and rng.random() < 0.5 else None

    return naive.text_of(naive.cut_lines(rows, known, choose))


def changed(rng, text):
    """The text with one or two things changed."""
    for _ in range(rng.randint(1, 2)):
        lines = text.split("\n")
        at = rng.randrange(len(lines))
        words = lines[at].split(" ")
        way = rng.randrange(9)
        if way == 0:
            del lines[at]
        elif way == 1:
            lines.insert(at, rng.choice(lines))
        elif way == 2:
            other = rng.randrange(len(lines))
            lines[at], lines[other] = lines[other], lines[at]
        elif way == 3:
            words[0] = rng.choice(("open", "read", "shut", "full", "far", "beaten", "apart", "late", "x"))
            lines[at] = " ".join(words)
        elif way == 4:
            words[-1] = rng.choice(("0", "1", "2", "7", "00", "-1", "", "12345678901", "9999999999"))
            lines[at] = " ".join(words)
        elif way == 5:
            lines[at] += rng.choice((" 0", " 1", " ", " 2 3", "0"))
        elif way == 6:
            lines[at] = lines[at].replace("open", "read") if rng.random() < 0.5 else lines[at].replace("read", "open")
        elif way == 7:
            lines = lines[:at] + [""]
        text = "\n".join(lines)
        if way == 8 and text:
            at = rng.randrange(len(text))
            text = text[:at] + rng.choice("\n 0129aesx") + text[at + rng.randint(0, 1):]
    return text


class CheckingTest(unittest.TestCase):
    def holds(self, tree, question, told, text):
        for shape in (tuple, as_lists, mixed):
            self.assertIs(cut_holds(tree, shape(question), told, text), True, (question, text))
        self.assertIs(cut_holds(text=text, told=told, question=question, tree=tree), True)

    def bad(self, at, tree, question, text, told=None):
        self.assertEqual(result(tree, question, told, text), [at], (question, text))
        self.assertEqual(result(tree, question, answer(tree, question), text), [at])


class HoldsTest(CheckingTest):
    def test_each_kind_by_hand(self):
        tree = three_pages()
        for question, told, text in (
            (("select", (), 0), (0, 1, 2, 10, 11, 12, 20, 21, 22), "open 9\nread 1\nread 2\nread 3\n"),
            (("select", (("meets", ((0, 15),)),), 0), (0, 1), "open 9\nread 1\nshut 2 0\nshut 3 0\n"),
            (("select", (("meets", ((300, 400),)),), 0), (), "shut 9 0\n"),
            (("count", (), 0), 9, "full 9\n"),
            (("count", (("inside", ((0, 120),)),), 0), 5, "open 9\nfull 1\nread 2\nshut 3 0\n"),
            (("nearest", 1, ((0, 0),), 0), ((0, 0),), "open 9\nread 1\nfar 2\nfar 3\n"),
            (("skyline", 200), (0, 20), "open 9\nread 1\nbeaten 2 0\nread 3\n"),
            (("during", ((0, 99),), 0, 98), (0, 1, 2), "open 9\nread 1\napart 2 0\napart 3 0\n"),
            (("first", ((-10, -6),), (1,), 0, 9), ((6, 1), (0,)), "open 9\nread 1\nlate 2\nlate 3\n"),
            (("first", ((-10, -6),), (1,), 0, 2), None, "late 9\n"),
        ):
            self.holds(tree, question, told, text)
            self.assertEqual((answer(tree, question), cut(tree, question)), (told, text))

    def test_lone_leaf_page(self):
        for tree, keys in ((Tree(1), ()), (Tree.from_pages(1, ((0, 0, on_line((5, 0, 1))),)), (5,))):
            self.holds(tree, ("select", (), 0), keys, "read 0\n")
            self.holds(tree, ("count", (), 0), len(keys), "read 0\n")
            self.bad(0, tree, ("count", (), 0), "full 0\n")
            self.bad(0, tree, ("count", (("meets", ((-1000000, 1000000),)),), 0), "full 0\n")
            self.bad(0, tree, ("nearest", 1, ((5, 9),), 0), "far 0\n")
            self.bad(0, tree, ("first", ((5, 9),), (0,), 0, 9), "late 0\n")
            self.bad(0, tree, ("during", ((5, 9),), 0, 9), "apart 0 0\n")
            self.bad(0, tree, ("skyline", 0), "beaten 0 5\n")
            self.bad(0, tree, ("select", (("meets", ((500, 900),)),), 0), "shut 0 0\n")
            self.bad(0, tree, ("select", (), 0), "open 0\n")
            self.holds(tree, ("select", (("covers", ((500, 900),)), ("inside", ((5, 6),))), 0), (), "shut 0 0\n")

    def test_answers_and_cuts_of_trees(self):
        rng = random.Random(48)
        for tree in trees(rng, 4):
            for kind in KINDS:
                for _ in range(2):
                    question = question_of(rng, tree.axes, kind, room=20, last=rng.choice((4, 20)))
                    self.holds(tree, question, answer(tree, question), cut(tree, question))

    def test_more_than_is_needed(self):
        tree = three_pages()
        for question, texts in (
            (("select", (("meets", ((300, 400),)),), 0), (
                "shut 9 0\n", "open 9\nshut 1 0\nshut 2 0\nshut 3 0\n", "open 9\nread 1\nshut 2 0\nread 3\n",
                "open 9\nread 1\nread 2\nread 3\n",
            )),
            (("count", (), 0), (
                "full 9\n", "open 9\nfull 1\nfull 2\nfull 3\n", "open 9\nread 1\nfull 2\nread 3\n",
                "open 9\nread 1\nread 2\nread 3\n",
            )),
            (("count", (("meets", ((300, 400),)),), 0), ("shut 9 0\n", "open 9\nread 1\nread 2\nshut 3 0\n")),
            (("nearest", 2, ((0, 0),), 0), (
                "open 9\nread 1\nread 2\nfar 3\n", "open 9\nread 1\nfar 2\nread 3\n", "open 9\nread 1\nread 2\nread 3\n",
            )),
            (("skyline", 0), ("open 9\nread 1\nread 2\nbeaten 3 0\n", "open 9\nread 1\nread 2\nread 3\n")),
            (("during", ((500, 600),), 0, 9), ("apart 9 0\n", "open 9\nread 1\napart 2 0\nread 3\n")),
            (("first", ((-10, -6),), (1,), 0, 2), ("late 9\n", "open 9\nread 1\nlate 2\nlate 3\n")),
            (("first", ((-10, -6),), (1,), 0, 99), ("open 9\nread 1\nread 2\nlate 3\n",)),
        ):
            for text in texts:
                self.holds(tree, question, answer(tree, question), text)

    def test_other_true_reasons(self):
        # Any axis that is right, any key of an item that is read and beats, any pair of axes.
        tree = square()
        question = ("select", (("meets", ((0, 9), (0, 9))),), 0)
        for axis in (0, 1):
            self.holds(tree, question, (10, 11, 12), f"open 9\nread 1\nshut 2 0\nshut 3 {axis}\n")
        self.bad(2, tree, question, "open 9\nread 1\nshut 2 1\nshut 3 1\n")
        tree = three_pages()
        for key in (0, 1, 2):
            self.holds(tree, ("skyline", 0), (0,), f"open 9\nread 1\nbeaten 2 {key}\nbeaten 3 {key}\n")
        self.holds(tree, ("skyline", 0), (0,), "open 9\nread 1\nread 2\nbeaten 3 12\n")
        question = ("during", ((1, 5), (1, 5)), 150, 1000)
        self.holds(crossing(), question, (1, 2), "open 9\nread 1\napart 2 0\n")


class FalseTest(CheckingTest):
    def false(self, tree, question, text, *values):
        for told in values:
            self.assertIs(cut_holds(tree, question, told, text), False, (question, told))

    def test_other_values(self):
        tree = three_pages()
        others = (None, True, False, "", "0", "ab", (), [], ((),), [[]], -1, 10 ** 30, (None,), ("",), (True,))
        for question, near in (
            (("select", (("meets", ((0, 15),)),), 0), (
                (0,), (1,), (0, 1, 2), (1, 0), [0, 1], (0, True), (False, 1), ((0, 1),), (0, 1, 1), (0, None), 2,
                ("0", "1"),
            )),
            (("select", (("meets", ((110, 111),)),), 0), ((10,), (12,), [11], 11, (11, 11), ((11,),))),
            (("count", (("meets", ((0, 15),)),), 0), (1, 3, "2", (2,), [2], 0)),
            (("count", (("meets", ((0, 5),)),), 0), (0, 2, True, "1", (1,))),
            (("count", (("meets", ((500, 600),)),), 0), (1, False, "0", None)),
            (("nearest", 1, ((0, 0),), 0), (
                (), ((0, 1),), ((1, 0),), [(0, 0)], ([0, 0],), ((0, False),), ((False, 0),), ((0, 0), (81, 1)), (0, 0),
                ((0, 0, 0),), ((0,),),
            )),
            (("skyline", 200), ((0,), (20,), (20, 0), [0, 20], (0, 20, 21), (False, 20))),
            (("during", ((0, 99),), 0, 98), ((0, 1), (0, 1, 2, 10), [0, 1, 2], (0, True, 2))),
            (("first", ((-10, -6),), (1,), 0, 9), (
                ((6, 1), (1,)), ((6, 1), ()), ((12, 2), (0,)), ((5, 1), (0,)), ((6, 1), [0]), ([6, 1], (0,)),
                [(6, 1), (0,)], ((6, True), (0,)), ((6, 1), (False,)), (6, (0,)), ((6, 1), (0,), ()), (6, 1, (0,)),
            )),
            (("first", ((-10, -6),), (1,), 0, 2), (((6, 1), (0,)), ((0, 1), ()))),
        ):
            value, text = answer(tree, question), cut(tree, question)
            self.holds(tree, question, value, text)
            self.false(tree, question, text, *[told for told in (*near, *others) if not naive.equal(told, value)])
            self.assertFalse(any(naive.equal(told, value) for told in near))

    def test_the_answer_of_another_tree(self):
        rng = random.Random(49)
        for tree in trees(rng, 1):
            for kind in KINDS:
                question = question_of(rng, tree.axes, kind, room=20)
                text = cut(tree, question)
                for told in (answer(tree, question), answer(Tree(tree.axes), question), 3, (0,), ((0, 1), (5,))):
                    equal = naive.equal(told, answer(tree, question))
                    self.assertIs(cut_holds(tree, question, told, text), equal)


class FormTest(CheckingTest):
    """BadCut for the first line that is not as it must be."""

    question = ("select", (("meets", ((0, 15),)),), 0)
    text = "open 9\nread 1\nshut 2 0\nshut 3 0\n"

    def line(self, at, line, tree=None, question=None, text=None):
        """The line in the place of that with the number at is found wrong."""
        tree, question, text = tree or three_pages(), question or self.question, text or self.text
        lines = text.split("\n")
        lines[at] = line
        self.bad(at, tree, question, "\n".join(lines))
        self.bad(at, tree, question, "\n".join([*lines[:at + 1], "x", *lines[at + 1:]]))

    def test_no_string(self):
        for value in NO_TEXTS:
            self.bad(0, three_pages(), self.question, value)
            self.bad(0, Tree(1), ("skyline", 0), value)

    def test_words(self):
        for at in range(4):
            number = (9, 1, 2, 3)[at]
            for line in (
                "", " ", "open", "read", "shut", "shut 0", f"shut {number}", f"open {number} 0", f"read {number} 0",
                f"shut {number} 0 0", f"shut {number}  0", f"shut  {number} 0", f" shut {number} 0", f"shut {number} 0 ",
                f"Shut {number} 0", f"shut\t{number} 0", f"shut,{number},0", f"shut 0 {number}", f"{number}", "9 0",
                f"full {number}", f"far {number}", f"beaten {number} 0", f"apart {number} 0", f"late {number}",
                f"shut {number} -1", f"shut {number} +0", f"shut {number} x", f"shut {number} 1", f"shut {number} 00",
                f"shut 0{number} 0", f"shut +{number} 0", f"shut {number}.0 0", f"shut {number} 0x0", "skip", "# note",
                f"shut {number} 00000000000", f"shut {number} 10000000000", f"open {number} ", f"open  {number}",
                f"open 0{number}", f"read 0{number}", f"read {number} ", f"open 1000000000{number}",
            ):
                self.line(at, line)

    def test_other_pages(self):
        for at in range(4):
            number = (9, 1, 2, 3)[at]
            for other in (0, 1, 2, 3, 4, 9, 90, 999, 1000, 9999999999):
                if other != number:
                    for line in (f"open {other}", f"read {other}", f"shut {other} 0"):
                        self.line(at, line)
        self.line(0, "read 9")
        for at in (1, 2, 3):
            self.line(at, f"open {at}")

    def test_lines_in_another_order(self):
        self.bad(1, three_pages(), self.question, "open 9\nshut 2 0\nread 1\nshut 3 0\n")
        self.bad(0, three_pages(), self.question, "read 1\nopen 9\nshut 2 0\nshut 3 0\n")
        self.bad(2, three_pages(), self.question, "open 9\nread 1\nshut 3 0\nshut 2 0\n")
        self.bad(2, three_pages(), self.question, "open 9\nread 1\nread 1\nshut 2 0\nshut 3 0\n")

    def test_a_line_after_the_last_page(self):
        for more in ("\n", "shut 3 0\n", "open 9\n", "read 3\n", "x\n", "x", " ", "open 9", "\n\n", self.text):
            self.bad(4, three_pages(), self.question, self.text + more)
        for more in ("\n", "read 0\n", "x", "read 0"):
            self.bad(1, Tree(1), ("skyline", 0), "read 0\n" + more)

    def test_no_line_feed_at_the_end(self):
        self.bad(3, three_pages(), self.question, self.text[:-1])
        self.bad(2, three_pages(), self.question, "open 9\nread 1\nshut 2 0")
        self.bad(0, three_pages(), self.question, "open 9")
        self.bad(0, three_pages(), self.question, "shut 9 0")
        self.bad(0, Tree(1), ("skyline", 0), "read 0")

    def test_too_few_lines(self):
        lines = self.text.splitlines(keepends=True)
        for many in range(4):
            self.bad(many, three_pages(), self.question, "".join(lines[:many]))
        self.bad(0, Tree(1), ("skyline", 0), "")
        # Whatever the reasons of the lines that are there.
        self.bad(3, three_pages(), self.question, "open 9\nshut 1 0\nread 2\n")

    def test_numbers_of_axes(self):
        tree = crossing()
        question = ("during", ((1, 5), (1, 5)), 0, 1000)
        text = "open 9\nread 1\napart 2 0 1\n"
        self.holds(tree, question, (1, 2), text)
        for line in (
            "apart 2 0 2", "apart 2 2", "apart 2 2 3", "apart 2 1 0", "apart 2 0 0", "apart 2 1 1", "apart 2 0 1 2",
            "apart 2 0 1 1", "apart 2", "apart 2 0  1", "apart 2 00 1", "apart 2 0 01", "apart 2 0 10", "apart 2 -1 1",
            "shut 2 0", "late 2", "beaten 2 0", "far 2", "full 2",
        ):
            self.line(2, line, tree, question, text)
        tree, question = square(), ("select", (("meets", ((0, 9), (0, 9))),), 0)
        text = "open 9\nread 1\nshut 2 0\nshut 3 1\n"
        self.holds(tree, question, (10, 11, 12), text)
        for line in ("shut 3 2", "shut 3 0 1", "shut 3 10", "shut 3"):
            self.line(3, line, tree, question, text)

    def test_forms_of_each_kind_alone(self):
        tree = three_pages()
        own = {
            "select": ("shut 3 0",), "count": ("shut 3 0", "full 3"), "nearest": ("far 3",), "skyline": ("beaten 3 0",),
            "during": ("apart 3 0",), "first": ("late 3",),
        }
        every = {line for lines in own.values() for line in lines}
        for question in (
            ("select", (), 0), ("count", (("meets", ((0, 1),)),), 0), ("nearest", 1, ((0, 1),), 0), ("skyline", 0),
            ("during", ((0, 1),), 0, 1), ("first", ((0, 1),), (0,), 0, 1),
        ):
            for line in sorted(every):
                # Where the first line has the form, the second one is a line after the last page.
                text = line.replace("3", "9", 1) + "\n" + "x\n"
                self.bad(1 if line in own[question[0]] else 0, tree, question, text)

    def test_keys_of_any_size(self):
        tree, question = three_pages(), ("skyline", 0)
        for key, at in (("0", None), ("9999999999", 2), ("1000000000", 2), ("00", 2), ("10000000000", 2), ("-1", 2)):
            text = f"open 9\nread 1\nbeaten 2 {key}\nbeaten 3 0\n"
            if at is None:
                self.holds(tree, question, (0,), text)
            else:
                self.bad(at, tree, question, text)
        # A number of ten digits has the form, so a later line of a wrong form comes first.
        self.bad(3, tree, question, "open 9\nread 1\nbeaten 2 9999999999\nbeaten 3 00\n")
        self.bad(2, tree, question, "open 9\nread 1\nbeaten 2 10000000000\nbeaten 3 00\n")

    def test_forms_before_reasons(self):
        tree = three_pages()
        self.bad(3, tree, self.question, "open 9\nshut 1 0\nshut 2 0\nshut 3 1\n")
        self.bad(4, tree, self.question, "open 9\nshut 1 0\nshut 2 0\nshut 3 0\nx\n")
        self.bad(3, tree, self.question, "open 9\nshut 1 0\nshut 2 0\n")
        self.bad(3, tree, self.question, "open 9\nshut 1 0\nshut 2 0\nshut 3 0")
        self.bad(1, tree, self.question, "open 9\nshut 1 0\nshut 2 0\nshut 3 0\n")

    def test_bad_value_comes_first(self):
        for tree in (Tree(1), three_pages()):
            for value in NO_QUESTIONS:
                for text in ("", "x", self.text, None, [[]]):
                    with self.assertRaises(SpatialError) as caught:
                        cut_holds(tree, value, (), text)
                    self.assertEqual((type(caught.exception), caught.exception.at), (BadValue, 1))


class ReasonTest(CheckingTest):
    """BadCut for the first line whose reason is not true."""

    def test_each_reason(self):
        tree = three_pages()
        for at, question, text in (
            (1, ("select", (("meets", ((0, 15),)),), 0), "open 9\nshut 1 0\nshut 2 0\nshut 3 0\n"),
            (0, ("select", (("meets", ((0, 15),)),), 0), "shut 9 0\n"),
            (2, ("select", (("meets", ((20, 100),)),), 0), "open 9\nread 1\nshut 2 0\nshut 3 0\n"),
            (3, ("select", (), 0), "open 9\nread 1\nread 2\nshut 3 0\n"),
            (1, ("count", (("inside", ((1, 50),)),), 0), "open 9\nfull 1\nshut 2 0\nshut 3 0\n"),
            (0, ("count", (("inside", ((0, 220),)),), 0), "full 9\n"),
            (3, ("count", (("inside", ((0, 220),)),), 0), "open 9\nfull 1\nfull 2\nshut 3 0\n"),
            (1, ("nearest", 1, ((0, 0),), 0), "open 9\nfar 1\nread 2\nfar 3\n"),
            (2, ("nearest", 4, ((0, 0),), 0), "open 9\nread 1\nfar 2\nread 3\n"),
            # Too few items are read.
            (2, ("nearest", 4, ((0, 0),), 0), "open 9\nread 1\nfar 2\nfar 3\n"),
            (0, ("nearest", 1, ((0, 0),), 0), "far 9\n"),
            # At an equal distance the page is not far.
            (2, ("nearest", 1, ((22, 99),), 0), "open 9\nread 1\nfar 2\nfar 3\n"),
            (1, ("skyline", 0), "open 9\nbeaten 1 10\nread 2\nbeaten 3 10\n"),
            # The item does not beat the corner; it is on no page that is read; there is none.
            (3, ("skyline", 200), "open 9\nread 1\nbeaten 2 0\nbeaten 3 0\n"),
            (2, ("skyline", 0), "open 9\nread 1\nbeaten 2 10\nbeaten 3 0\n"),
            (3, ("skyline", 0), "open 9\nread 1\nbeaten 2 0\nbeaten 3 20\n"),
            (2, ("skyline", 0), "open 9\nread 1\nbeaten 2 77\nbeaten 3 0\n"),
            (0, ("skyline", 0), "beaten 9 0\n"),
            (1, ("during", ((0, 99),), 0, 98), "open 9\napart 1 0\napart 2 0\napart 3 0\n"),
            (3, ("during", ((0, 99),), 0, 101), "open 9\nread 1\napart 2 0\napart 3 0\n"),
            (1, ("first", ((-10, -6),), (1,), 0, 9), "open 9\nlate 1\nlate 2\nlate 3\n"),
            (3, ("first", ((150, 150),), (0,), 0, 99), "open 9\nlate 1\nlate 2\nlate 3\n"),
            (0, ("first", ((150, 150),), (0,), 0, 99), "late 9\n"),
        ):
            self.bad(at, tree, question, text)

    def test_late_at_the_same_moment(self):
        # The box reaches page 2 at the very moment at which it meets an item on page 1.
        tree = Tree.from_pages(1, (
            (9, 1, (1, 2)),
            (1, 0, on_line((0, 30, 31), (1, 10, 11), (2, 20, 21))),
            (2, 0, on_line((10, 50, 51, -1), (11, 60, 61, -1), (12, 70, 71, -1))),
        ), most=6)
        question = ("first", ((40, 40),), (-1,), 0, 99)
        self.assertEqual(answer(tree, question), ((9, 1), (0,)))
        self.bad(2, tree, ("first", ((40, 41),), (0,), 0, 99), "open 9\nlate 1\nlate 2\n")
        text = "open 9\nread 1\nlate 2\n"
        self.holds(tree, question, ((9, 1), (0,)), text)
        both = ("first", ((40, 41),), (-1,), 0, 99)
        self.holds(tree, both, ((9, 1), (0,)), text)
        moved = Tree.from_pages(1, (
            tree.pages()[0], tree.pages()[1], (2, 0, on_line((10, 50, 51, -2), (11, 60, 61, -2), (12, 70, 71, -2))),
        ), most=6)
        self.assertEqual(answer(moved, both), ((9, 1), (0, 10)))
        self.bad(2, moved, both, text)
        self.holds(moved, both, ((9, 1), (0, 10)), "open 9\nread 1\nread 2\n")

    def test_pairs_where_one_axis_would_do(self):
        tree = crossing()
        for start, end, line, is_true in (
            (0, 1000, "apart 2 0 1", True), (0, 1000, "apart 2 0", False), (0, 1000, "apart 2 1", False),
            (0, 100, "apart 2 1", True), (0, 100, "apart 2 0 1", False), (0, 100, "apart 2 0", False),
            (0, 20, "apart 2 0", True), (0, 20, "apart 2 1", True), (0, 20, "apart 2 0 1", False),
            (150, 1000, "apart 2 0 1", False), (150, 1000, "apart 2 0", True), (150, 1000, "apart 2 1", False),
        ):
            question = ("during", ((1, 5), (1, 5)), start, end)
            text = f"open 9\nread 1\n{line}\n"
            if is_true:
                self.holds(tree, question, answer(tree, question), text)
            else:
                self.bad(2, tree, question, text)
        # An item that is met on both axes at the same moment.
        question = ("during", ((1, 105), (1, 105)), 0, 1000)
        self.bad(2, tree, question, "open 9\nread 1\napart 2 0 1\n")

    def test_the_first_one_that_is_not_true(self):
        tree, question = three_pages(), ("select", (), 0)
        self.bad(1, tree, question, "open 9\nshut 1 0\nshut 2 0\nshut 3 0\n")
        self.bad(2, tree, question, "open 9\nread 1\nshut 2 0\nshut 3 0\n")
        self.bad(3, tree, question, "open 9\nread 1\nread 2\nshut 3 0\n")


class RandomTest(CheckingTest):
    def each_tree_and_question(self, rng, many_of_each):
        for tree in trees(rng, many_of_each):
            # What is possible on a page with the widest bounds is too much to try.
            if len(tree.pages()) > 1:
                for kind in KINDS:
                    yield tree, question_of(rng, tree.axes, kind, room=20, last=rng.choice((4, 20)))
        for _ in range(10 * many_of_each):
            tree = convoys(rng, rng.randint(2, 4), 4)
            yield tree, ("during", small_box(rng, tree.axes, 12, 3), 0, 40)

    def test_all_true_reasons_are_accepted(self):
        rng = random.Random(50)
        wider = 0
        for tree, question in self.each_tree_and_question(rng, 3):
            value, needed = answer(tree, question), pages_read(tree, question)
            for _ in range(3):
                text = wider_text(rng, tree, question)
                self.holds(tree, question, value, text)
                read = {int(line[5:]) for line in text.split("\n") if line.startswith("read")}
                self.assertTrue(set(needed) <= read)
                wider += set(needed) != read
        self.assertGreater(wider, 100)

    def test_changed_texts(self):
        rng = random.Random(51)
        results = {}
        for tree, question in self.each_tree_and_question(rng, 4):
            rows, known = tree.pages(), known_of(tree)
            value, needed = answer(tree, question), set(pages_read(tree, question))
            for _ in range(12):
                text = changed(rng, wider_text(rng, tree, question))
                found = result(tree, question, value, text)
                self.assertEqual(found, naive.check(rows, known, tree.axes, question, value, text), (rows, question, text))
                if not isinstance(found, list):
                    # An accepted text reads all needed pages, and proves the answer.
                    read = {int(line[5:]) for line in text.split("\n") if line.startswith("read")}
                    self.assertTrue(needed <= read)
                    self.assertIs(found, True)
                results[str(type(found))] = results.get(str(type(found)), 0) + 1
        self.assertGreater(min(results.values()), 50, results)
        self.assertEqual(len(results), 2)

    def test_false_reasons(self):
        # Cuts of the form in which any page may have any reason.
        rng = random.Random(52)
        results = {}
        for tree, question in self.each_tree_and_question(rng, 4):
            rows, known = tree.pages(), known_of(tree)
            keys = [item[0] for item in tree.all_items()]

            def any_reason(_, question=question, tree=tree, keys=keys):
                if rng.random() < 0.7:
                    return None
                form = rng.choice(naive.FORMS[question[0]]).split()
                if form[0] == "beaten":
                    return ("beaten", rng.choice(keys))
                axes = sorted(rng.sample(range(tree.axes), min(len(form) - 2, tree.axes)))
                return (form[0], *axes)

            for _ in range(12):
                text = naive.text_of(naive.cut_lines(rows, known, any_reason))
                told = rng.choice((answer(tree, question), (), 0))
                found = result(tree, question, told, text)
                self.assertEqual(found, naive.check(rows, known, tree.axes, question, told, text), (rows, question, text))
                results[str(type(found))] = results.get(str(type(found)), 0) + 1
        self.assertGreater(min(results.values()), 200, results)


class TwinTest(CheckingTest):
    """What holds of a tree holds of every tree that has the pages of a twin."""

    def texts(self, rng, tree, question):
        yield cut(tree, question)
        if len(tree.pages()) > 1:
            wide = wider_text(rng, tree, question)
            yield wide
            yield changed(rng, wide)

    def test_same_result_and_same_answer(self):
        rng = random.Random(53)
        others = 0
        for tree in trees(rng, 4):
            for kind in KINDS:
                question = question_of(rng, tree.axes, kind, room=20, last=rng.choice((4, 20)))
                value = answer(tree, question)
                for text in self.texts(rng, tree, question):
                    read = [int(line[5:]) for line in text.split("\n") if line[:5] == "read " and line[5:].isdigit()]
                    other = twin_of(rng, tree, read)
                    others += other != tree
                    self.assertEqual(known_of(other), known_of(tree))
                    found = result(tree, question, value, text)
                    self.assertEqual(result(other, question, value, text), found)
                    if found is True:
                        self.assertEqual(answer(other, question), value, (tree.pages(), other.pages(), question, text))
        self.assertGreater(others, 300)

    def test_nothing_changes(self):
        tree, question = three_pages(), as_lists(("nearest", 1, ((0, 0),), 0))
        before, kept = tree.pages(), copy.deepcopy(question)
        told = [[0, 0]]
        self.assertIs(cut_holds(tree, question, told, cut(tree, question)), False)
        self.assertEqual((tree.pages(), question, told), (before, kept, [[0, 0]]))


if __name__ == "__main__":
    unittest.main()
