"""What is a question. [19] [21] [29] [33]"""

import copy
import unittest

from helpers import as_lists, mixed

from boundstead.questions import is_question

LIMIT = 1000000
SHAPES = (lambda value: value, as_lists, mixed, lambda value: mixed(value, 1))

NO_TIMES = (-1, 1001, 10 ** 30, True, False, None, "0", "", (), (0,), [0])
OTHERS = (
    "", "select", "skyline", "first", "a", 0, 1, -1, 10 ** 30, True, False, None, (), [], [[]], (None,), (True,),
    ((),), ("",), (0,), (("select",), (), 0), (["select"], (), 0), ("select",), ("count",), ("nearest",),
    ("during",), ("first",), ("skyline",), ("put", 1, ((0, 1),), None), ("drop", 1), ("commit",), ("rollback",),
    ("turn", 1, 0, (0,)), ("join", 0), ("Select", (), 0), ("selec", (), 0), ("select ", (), 0),
)


def box(axes, low=0, high=1):
    """A box with the same pair on every axis."""
    return ((low, high),) * axes


def bad_boxes(axes):
    """What is no box of so many axes."""
    many = [box(other) for other in range(0, 6) if other != axes]
    for pair in ((1, 0), (0, LIMIT + 1), (-LIMIT - 1, 0), (0,), (0, 1, 2), (), (0, True), (None, 1), ("0", "1"), "01",
                 0, None, True):
        many.append((*box(axes - 1), pair))
        many.append((pair, *box(axes - 1)))
    return (*many, "", "ab", 0, None, True, (0, 1) * axes)


def bad_speeds(axes):
    """What is no speed of so many axes."""
    many = [(0,) * other for other in range(0, 6) if other != axes]
    for rate in (101, -101, True, None, "0", (0,), ()):
        many.append((*(0,) * (axes - 1), rate))
    return (*many, "", "0", 0, None, True)


class QuestionTest(unittest.TestCase):
    def good(self, axes, value):
        for shape in SHAPES:
            self.assertIs(is_question(axes, shape(value)), True, (axes, value))
        self.assertIs(is_question(value=value, axes=axes), True)

    def bad(self, axes, value):
        for shape in SHAPES:
            self.assertIs(is_question(axes, shape(value)), False, (axes, value))

    def bad_lengths(self, axes, value):
        for cut in range(len(value)):
            self.bad(axes, value[:cut])
        for more in (0, None, (), value[-1]):
            self.bad(axes, (*value, more))

    def bad_parts(self, axes, value, at, parts):
        for part in parts:
            self.bad(axes, (*value[:at], part, *value[at + 1:]))

    def bad_times(self, axes, value, *places):
        for at in places:
            self.bad_parts(axes, value, at, NO_TIMES)

    def test_select_and_count(self):
        for kind in ("select", "count"):
            for axes in (1, 2, 3, 4):
                whole = (("meets", box(axes)), ("inside", box(axes, -LIMIT, LIMIT)), ("covers", box(axes, 7, 7)))
                for many in range(4):
                    for time in (0, 5, 1000):
                        self.good(axes, (kind, whole[:many], time))
                four = (*whole, ("meets", box(axes, -5, -5)))
                self.good(axes, (kind, four, 0))
                self.good(axes, (kind, (four[0],) * 4, 0))
                self.bad(axes, (kind, (*four, four[0]), 0))
                self.bad_lengths(axes, (kind, four, 0))
                self.bad_times(axes, (kind, four, 0), 2)
                self.bad_times(axes, (kind, (), 0), 2)
                self.bad_parts(axes, (kind, (), 0), 1, ("", "all", "meets", None, 0, True, whole[0], (whole[0][0],)))

    def test_conditions(self):
        for axes in (1, 2, 3, 4):
            other = ("meets", box(axes))
            for wrong in (
                ("meets",), (), ("meets", box(axes), 0), ("meets", box(axes), box(axes)), (box(axes), "meets"),
                ("", box(axes)), ("meet", box(axes)), ("Meets", box(axes)), ("touches", box(axes)),
                ("select", box(axes)), (None, box(axes)), (0, box(axes)), (True, box(axes)),
                (("meets",), box(axes)), ((), box(axes)), "meets", "ab", "", None, 0, True,
            ):
                for conditions in ((wrong,), (wrong, other), (other, wrong), (other, other, other, wrong)):
                    self.bad(axes, ("select", conditions, 0))
                    self.bad(axes, ("count", conditions, 0))
            for word in ("meets", "inside", "covers"):
                for wrong in bad_boxes(axes):
                    self.bad(axes, ("select", ((word, wrong),), 0))
                    self.bad(axes, ("count", (other, (word, wrong)), 0))

    def test_nearest(self):
        for axes in (1, 2, 3, 4):
            for many in (1, 2, 100):
                for time in (0, 1000):
                    self.good(axes, ("nearest", many, box(axes, -LIMIT, LIMIT), time))
            whole = ("nearest", 3, box(axes), 5)
            self.bad_lengths(axes, whole)
            self.bad_parts(axes, whole, 1, (0, 101, -1, 10 ** 30, True, None, "3", (3,), ()))
            self.bad_parts(axes, whole, 2, bad_boxes(axes))
            self.bad_times(axes, whole, 3)

    def test_skyline(self):
        for axes in (1, 2, 3, 4):
            for time in (0, 1, 1000):
                self.good(axes, ("skyline", time))
            self.bad_lengths(axes, ("skyline", 0))
            self.bad_times(axes, ("skyline", 0), 1)

    def test_during(self):
        for axes in (1, 2, 3, 4):
            for start, end in ((0, 0), (0, 1000), (1000, 1000), (3, 4)):
                self.good(axes, ("during", box(axes), start, end))
            whole = ("during", box(axes), 0, 1000)
            self.bad_lengths(axes, whole)
            self.bad_parts(axes, whole, 1, bad_boxes(axes))
            self.bad_times(axes, whole, 2, 3)
            for start, end in ((1, 0), (1000, 999), (1000, 0)):
                self.bad(axes, ("during", box(axes), start, end))

    def test_first(self):
        for axes in (1, 2, 3, 4):
            for start, end in ((0, 0), (0, 1000), (1000, 1000), (3, 4)):
                for rate in (-100, 0, 100):
                    self.good(axes, ("first", box(axes), (rate,) * axes, start, end))
            whole = ("first", box(axes), (1,) * axes, 0, 1000)
            self.bad_lengths(axes, whole)
            self.bad_parts(axes, whole, 1, bad_boxes(axes))
            self.bad_parts(axes, whole, 2, bad_speeds(axes))
            self.bad_times(axes, whole, 3, 4)
            for start, end in ((1, 0), (1000, 999), (1000, 0)):
                self.bad(axes, ("first", box(axes), (1,) * axes, start, end))

    def test_other_kinds_and_other_values(self):
        parts = {
            "select": ((), 0), "nearest": (1, box(1), 0), "skyline": (0,), "during": (box(1), 0, 1),
            "first": (box(1), (0,), 0, 1),
        }
        for axes in (1, 2, 3, 4):
            for value in OTHERS:
                self.bad(axes, value)
        for kind, rest in parts.items():
            self.good(1, (kind, *rest))
            for other in (kind.upper(), kind + " ", kind[:-1], "", 0, None, True, (kind,), ()):
                self.bad(1, (other, *rest))
            for other in parts:
                if other != kind:
                    self.bad(1, (other, *rest))
            self.bad(1, ((kind, *rest),))

    def test_unchanged(self):
        for value in (["select", [["meets", [[0, 1]]]], 5], ["first", [[0, 1]], [2], 0, 9], ["during", [[1, 0]], 0, 9]):
            kept = copy.deepcopy(value)
            is_question(1, value)
            self.assertEqual(value, kept)


if __name__ == "__main__":
    unittest.main()
