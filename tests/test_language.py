"""Statements as texts. [18] [64] to [66]"""

import copy
import random
import re
import unittest

from helpers import as_lists, is_plain, mixed
from makers import KINDS, question_of

from boundstead.errors import BadSyntax, BadValue, SpatialError
from boundstead.language import parse, printed

# Each kind of statement as it is printed.
PRINTED = (
    ("put 1 [0..9]", ("put", 1, ((0, 9),), None)),
    ("put 1 [5, -3..7] speed [0, -100]", ("put", 1, ((5, 5), (-3, 7)), (0, -100))),
    ("put -999999999999 [9..1] speed [1, 2, 3]", ("put", -999999999999, ((9, 1),), (1, 2, 3))),
    ("put 0 [0] speed [0]", ("put", 0, ((0, 0),), (0,))),
    ("drop 0", ("drop", 0)),
    ("drop -7", ("drop", -7)),
    ("turn 5 at 1000 speed [1, -1]", ("turn", 5, 1000, (1, -1))),
    ("turn 5 at -1 speed [0]", ("turn", 5, -1, (0,))),
    ("select all at 0", ("select", (), 0)),
    ("count all at 999999999999", ("count", (), 999999999999)),
    ("select meets [1..2, 3] at 4", ("select", (("meets", ((1, 2), (3, 3))),), 4)),
    ("count inside [1] and covers [2..1] and meets [-5..5] at 6",
     ("count", (("inside", ((1, 1),)), ("covers", ((2, 1),)), ("meets", ((-5, 5),))), 6)),
    ("select " + " and ".join(["covers [7]"] * 9) + " at 1", ("select", (("covers", ((7, 7),)),) * 9, 1)),
    ("nearest 5000 to [1..2] at 3", ("nearest", 5000, ((1, 2),), 3)),
    ("nearest 0 to [1, 1] at 3", ("nearest", 0, ((1, 1), (1, 1)), 3)),
    ("skyline at 7", ("skyline", 7)),
    ("during [0..1] from 5 to 2", ("during", ((0, 1),), 5, 2)),
    ("first [0..1, 2] from 0 to 9", ("first", ((0, 1), (2, 2)), (0, 0), 0, 9)),
    ("first [0..1, 2] speed [0, 1] from 0 to 9", ("first", ((0, 1), (2, 2)), (0, 1), 0, 9)),
    ("first [0..1, 2] speed [0] from 0 to 9", ("first", ((0, 1), (2, 2)), (0,), 0, 9)),
    ("first [0] speed [0, 0] from 0 to 9", ("first", ((0, 0),), (0, 0), 0, 9)),
    ("first [0] from -1 to -2", ("first", ((0, 0),), (0,), -1, -2)),
    ("commit", ("commit",)),
    ("rollback", ("rollback",)),
)

# The statements' tokens by their names, for a second parser that knows all sequences of tokens.
TOKEN = re.compile(r"[a-z]+|-?[0-9]+|\.\.|[][,]")
NUMBER = re.compile(r"0|-?[1-9][0-9]{0,11}")


def nexts(done):
    """What may follow these tokens: words, symbols, "n" for a number, "" for the end. [65]

    The tokens are given as one string, with n for each number and one space behind each token.
    """
    box = r"\[ n (\.\. n )?(, n (\.\. n )?)*"
    row = r"\[ n (, n )*"
    whole_box, whole_row = box + r"\] ", row + r"\] "
    condition = f"(meets|inside|covers) {whole_box}"
    conditions = f"(all |{condition}(and {condition})*)"
    rules = (
        ("", "put drop turn select count nearest skyline during first commit rollback"),
        ("put ", "n"), ("put n ", "["), (f"put n {whole_box}", "speed END"), (f"put n {whole_box}speed ", "["),
        (f"put n {whole_box}speed {whole_row}", "END"),
        ("drop ", "n"), ("drop n ", "END"),
        ("turn ", "n"), ("turn n ", "at"), ("turn n at ", "n"), ("turn n at n ", "speed"), ("turn n at n speed ", "["),
        (f"turn n at n speed {whole_row}", "END"),
        ("(select|count) ", "all meets inside covers"), (f"(select|count) ({condition}and )+", "meets inside covers"),
        (f"(select|count) ({condition}and )*(meets|inside|covers) ", "["),
        (f"(select|count) {condition}(and {condition})*", "and at"), ("(select|count) all ", "at"),
        (f"(select|count) {conditions}at ", "n"), (f"(select|count) {conditions}at n ", "END"),
        ("nearest ", "n"), ("nearest n ", "to"), ("nearest n to ", "["), (f"nearest n to {whole_box}", "at"),
        (f"nearest n to {whole_box}at ", "n"), (f"nearest n to {whole_box}at n ", "END"),
        ("skyline ", "at"), ("skyline at ", "n"), ("skyline at n ", "END"),
        ("during ", "["), (f"during {whole_box}", "from"), (f"first {whole_box}", "speed from"), ("first ", "["),
        (f"first {whole_box}speed ", "["), (f"first {whole_box}speed {whole_row}", "from"),
        (f"(during |first ){whole_box}from ", "n"), (f"first {whole_box}speed {whole_row}from ", "n"),
        (f"(during |first ){whole_box}from n ", "to"), (f"first {whole_box}speed {whole_row}from n ", "to"),
        (f"(during |first ){whole_box}from n to ", "n"), (f"first {whole_box}speed {whole_row}from n to ", "n"),
        (f"(during |first ){whole_box}from n to n ", "END"),
        (f"first {whole_box}speed {whole_row}from n to n ", "END"),
        ("commit ", "END"), ("rollback ", "END"),
    )
    told = []
    for rule, words in rules:
        if re.fullmatch(rule, done):
            told += words.split()
    return told + nexts_in_brackets(done, whole_box, whole_row, condition)


def nexts_in_brackets(done, whole_box, whole_row, condition):
    """What may follow within a box or a list."""
    before_box = f"(put n |(select|count) ({condition}and )*(meets|inside|covers) |nearest n to |during |first )"
    before_row = f"(put n {whole_box}speed |turn n at n speed |first {whole_box}speed )"
    pair = r"n (\.\. n )?"
    for rule, words in (
        (rf"{before_box}\[ ({pair}, )*", "n"), (rf"{before_box}\[ ({pair}, )*n ", ".. , ]"),
        (rf"{before_box}\[ ({pair}, )*n \.\. ", "n"), (rf"{before_box}\[ ({pair}, )*n \.\. n ", ", ]"),
        (rf"{before_row}\[ (n , )*", "n"), (rf"{before_row}\[ (n , )*n ", ", ]"),
    ):
        if re.fullmatch(rule, done):
            return words.split()
    return []


def wrong_place(text):
    """Where the text stops being a statement, or None. [66]"""
    at, done = 0, ""
    while True:
        while text[at:at + 1] == " ":
            at += 1
        may = nexts(done)
        if at == len(text):
            return None if "END" in may else at
        found = TOKEN.match(text, at)
        if not found:
            return at
        token = found.group()
        kind = "n" if NUMBER.fullmatch(token) else token
        if kind not in may or kind == "n" and token == "n":
            return at
        done += kind + " "
        at = found.end()


def random_statement(rng):
    """A statement as tuples."""
    def number():
        return rng.choice((0, 1, -1, rng.randint(-99, 99), rng.randint(-999999999999, 999999999999)))

    def pair():
        low = number()
        return (low, rng.choice((low, number())))

    def box(most=16):
        return tuple(pair() for _ in range(rng.randint(1, rng.choice((1, 2, 4, most)))))

    def row(most=16):
        zeros = rng.random() < 0.3
        return tuple(0 if zeros else number() for _ in range(rng.randint(1, rng.choice((1, 2, 4, most)))))

    def conditions():
        return tuple((rng.choice(("meets", "inside", "covers")), box()) for _ in range(rng.choice((0, 0, 1, 2, 6))))

    kind = rng.choice(("put", "drop", "turn", "select", "count", "nearest", "skyline", "during", "first", "commit",
                       "rollback"))
    parts = {
        "put": lambda: (number(), box(), rng.choice((None, row()))), "drop": lambda: (number(),),
        "turn": lambda: (number(), number(), row()), "select": lambda: (conditions(), number()),
        "count": lambda: (conditions(), number()), "nearest": lambda: (number(), box(), number()),
        "skyline": lambda: (number(),), "during": lambda: (box(), number(), number()),
        "first": lambda: (box(), row(), number(), number()), "commit": lambda: (), "rollback": lambda: (),
    }
    return (kind, *parts[kind]())


class LanguageTest(unittest.TestCase):
    def wrong(self, at, text):
        with self.assertRaises(SpatialError) as caught:
            parse(text)
        self.assertEqual((type(caught.exception), caught.exception.at), (BadSyntax, at), text)

    def no_statement(self, value):
        with self.assertRaises(SpatialError) as caught:
            printed(value)
        self.assertEqual((type(caught.exception), caught.exception.at), (BadValue, 0), value)


class ParseTest(LanguageTest):
    def test_each_kind(self):
        for text, statement in PRINTED:
            found = parse(text)
            self.assertEqual(found, statement)
            self.assertTrue(is_plain(found), text)
        self.assertEqual(parse(text="drop 5"), ("drop", 5))

    def test_pairs_and_lists(self):
        for text, statement in (
            ("put 1 [5..5]", ("put", 1, ((5, 5),), None)),
            ("put 1 [5..5,5,4..5]speed[-1,0]", ("put", 1, ((5, 5), (5, 5), (4, 5)), (-1, 0))),
            ("put -1 [-5..-4]", ("put", -1, ((-5, -4),), None)),
            ("first [1] speed [0] from 1 to 2", ("first", ((1, 1),), (0,), 1, 2)),
            ("put 1 [" + ", ".join(["0..1"] * 16) + "]", ("put", 1, ((0, 1),) * 16, None)),
            ("during [999999999999..-999999999999] from 0 to 0",
             ("during", ((999999999999, -999999999999),), 0, 0)),
        ):
            self.assertEqual(parse(text), statement)

    def test_spaces(self):
        for text, statement in (
            ("commit", ("commit",)), ("   commit   ", ("commit",)), (" drop    5 ", ("drop", 5)),
            ("drop5", ("drop", 5)), ("drop-5", ("drop", -5)), ("put1[2]", ("put", 1, ((2, 2),), None)),
            ("put1-2", None), ("put1[2..3,-4..-3]speed[1,-1]", ("put", 1, ((2, 3), (-4, -3)), (1, -1))),
            ("put 1 [ 2 .. 3 , 4 ] speed [ 1 , 1 ] ", ("put", 1, ((2, 3), (4, 4)), (1, 1))),
            ("selectall at 0", None), ("select all at0", ("select", (), 0)),
            ("count meets[1]and inside[2]at 3", ("count", (("meets", ((1, 1),)), ("inside", ((2, 2),))), 3)),
            ("first[1]from 2to 3", ("first", ((1, 1),), (0,), 2, 3)),
            ("nearest5to[1..2]at3", ("nearest", 5, ((1, 2),), 3)),
            ("turn5at6speed[7]", ("turn", 5, 6, (7,))), ("skylineat 3", None),
        ):
            if statement is None:
                self.assertIsNotNone(wrong_place(text))
                self.wrong(wrong_place(text), text)
            else:
                self.assertEqual(parse(text), statement, text)
                self.assertIsNone(wrong_place(text))

    def test_random_spaces(self):
        rng = random.Random(65)
        for text, statement in PRINTED:
            for _ in range(20):
                tokens = TOKEN.findall(text)
                made = " " * rng.randint(0, 3)
                for one, other in zip(tokens, tokens[1:] + [""]):
                    close = one[-1:].isalpha() and other[:1].isalpha() or one[-1:].isdigit() and other[:1].isdigit()
                    made += one + " " * rng.randint(1 if close else 0, 3)
                self.assertEqual(parse(made), statement, made)

    def test_where_it_goes_wrong(self):
        for at, text in (
            (0, ""), (3, "   "), (0, "x"), (0, "Put 1 [2]"), (2, "  PUT"), (0, "puts 1 [2]"), (0, "5"), (0, "[1]"),
            (3, "put"), (4, "put "), (4, "put x"), (4, "put [1]"), (5, "put 1"), (6, "put 1 2"), (7, "put 1 ["),
            (7, "put 1 []"), (8, "put 1 [1"), (9, "put 1 [1,"), (9, "put 1 [1,]"), (10, "put 1 [1..]"), (10, "put 1 [1.."),
            (8, "put 1 [1.5]"), (9, "put 1 [1 . 5]"), (10, "put 1 [1...5]"), (11, "put 1 [1..2..3]"), (8, "put 1 [1;2]"),
            (10, "put 1 [1] 5"), (10, "put 1 [1] speeds [1]"), (15, "put 1 [1] speed"), (16, "put 1 [1] speed 1"),
            (18, "put 1 [1] speed [1..2]"), (20, "put 1 [1] speed [1] speed [1]"), (9, "put 1 [1]]"), (9, "put 1 [1],"),
            (5, "drop x"), (7, "drop 5 5"), (7, "drop 5 drop 5"), (5, "drop -"), (5, "drop - 5"), (5, "drop --5"),
            (5, "drop +5"), (5, "drop 05"), (5, "drop 00"), (5, "drop -0"), (5, "drop -05"), (5, "drop 1234567890123"),
            (5, "drop -1234567890123"), (6, "drop 5-5"), (6, "drop 5.."), (6, "drop 5."), (6, "drop 5,"), (5, "drop .5"),
            (5, "drop ..5"), (6, "drop 5x"), (6, "drop 5\n"), (4, "drop\t5"), (6, "drop 5_0"), (6, "drop 5e3"),
            (7, "turn 5 speed [1]"), (11, "turn 5 at 6"), (12, "turn 5 at 6 at 7"), (7, "turn 5 to 6 speed [1]"),
            (7, "select at 0"), (7, "select and meets [1] at 0"), (11, "select all and meets [1] at 0"),
            (11, "select all meets [1] at 0"), (22, "select meets [1] at 0 and"), (16, "select meets [1]"),
            (17, "select meets [1] or meets [2] at 0"), (17, "select meets [1] inside [2] at 0"),
            (21, "select meets [1] and all at 0"), (21, "select meets [1] and at 0"), (13, "select meets 5 at 0"),
            (13, "select meets at 0"), (20, "select meets [1] at x"), (7, "select meet [1] at 0"), (6, "select"),
            (10, "nearest 5 [1] at 0"), (13, "nearest 5 to all at 0"), (8, "nearest to [1] at 0"), (12, "nearest 5 to"),
            (8, "skyline 5"), (10, "skyline at"), (13, "skyline at 5 5"), (7, "during 5"), (11, "during [1] at 5"),
            (18, "during [1] from 5 at 6"), (17, "during [1] from 5"), (11, "during [1] speed [1] from 5 to 6"),
            (20, "first [1] speed [1] at 5"), (10, "first [1] to 5"), (10, "first [1] at 5"),
            (7, "commit 5"), (7, "commit commit"), (9, "rollback [1]"), (6, "commit;"), (7, "commit ;"), (6, "commit."),
            (8, "rollback-"), (0, "commits"), (0, "-"), (0, "."), (0, ".."), (0, "\n"), (0, chr(37)), (0, "\u00e9"),
        ):
            self.assertEqual(wrong_place(text), at, text)
            self.wrong(at, text)

    def test_whichever_comes_first(self):
        for at, text in (
            # A character that begins no token behind a token that does not go on, and the other way round.
            (5, "drop x ;"), (5, "drop ; x"), (7, "drop 5 x ;"), (7, "drop 5 ; x"), (5, "drop 05 ?"), (4, "drop? 05"),
            (0, "DROP 05"), (6, "drop 5?"), (7, "drop 5 - x"), (8, "drop 5  . ;"),
        ):
            self.wrong(at, text)

    def test_random_changes(self):
        rng = random.Random(66)
        places = {}
        parts = ["put", "drop", "turn", "select", "count", "nearest", "skyline", "during", "first", "commit", "rollback",
                 "all", "and", "at", "to", "from", "speed", "meets", "inside", "covers", "[", "]", ",", "..", ".", "...",
                 "-", "0", "-0", "1", "-7", "007", "123456789012", "1234567890123", " ", "  ", "x", "N", "\n", ";"]
        for text, _ in PRINTED:
            for _ in range(120):
                made = text
                for _ in range(rng.choice((1, 1, 2))):
                    at = rng.randint(0, len(made))
                    end = min(len(made), at + rng.choice((0, 0, 1, 1, 2, 5)))
                    made = made[:at] + rng.choice((rng.choice(parts), "")) + made[end:]
                place = wrong_place(made)
                if place is None:
                    parse(made)
                else:
                    self.wrong(place, made)
                kind = "none" if place is None else "end" if place == len(made) else "within"
                places[kind] = places.get(kind, 0) + 1
        self.assertTrue(all(places[kind] > 50 for kind in ("none", "end", "within")), places)

    def test_each_beginning_of_a_statement(self):
        for text, _ in PRINTED:
            for at in range(len(text)):
                place = wrong_place(text[:at])
                if place is not None:
                    self.wrong(place, text[:at])

    def test_no_string(self):
        for value in (None, True, 0, 5, (), [], ("commit",), ["c"], [["drop", 5]]):
            self.wrong(0, value)

    def test_long_texts(self):
        self.wrong(20000, " " * 20000)
        self.wrong(0, "a" * 20000)
        self.wrong(5, "drop " + "1" * 19990)
        box = "[" + ", ".join(["1..2"] * 3000) + "]"
        self.assertEqual(len(parse(f"put 1 {box}")[2]), 3000)
        self.wrong(len(f"put 1 {box}") - 1, f"put 1 {box[:-1]}")


class PrintedTest(LanguageTest):
    def test_each_kind(self):
        for text, statement in PRINTED:
            for shape in (tuple, as_lists, mixed):
                value = shape(statement)
                kept = copy.deepcopy(value)
                self.assertEqual(printed(value), text)
                self.assertEqual(value, kept)
        self.assertEqual(printed(statement=["drop", 5]), "drop 5")

    def test_parse_of_printed(self):
        rng = random.Random(18)
        kinds = {}
        for _ in range(4000):
            statement = random_statement(rng)
            for shape in (tuple, as_lists, mixed):
                self.assertEqual(parse(printed(shape(statement))), statement)
            self.assertEqual(printed(parse(printed(statement))), printed(statement))
            self.assertIsNone(wrong_place(printed(statement)))
            kinds[statement[0]] = True
        self.assertEqual(len(kinds), 11)

    def test_questions(self):
        rng = random.Random(29)
        for kind in KINDS:
            for axes in (1, 2, 3, 4):
                for _ in range(20):
                    question = question_of(rng, axes, kind)
                    self.assertEqual(parse(printed(question)), question)

    def test_no_statement(self):
        box, row = ((0, 1),), (0,)
        wholes = (True, False, None, "1", 1000000000000, -1000000000000, 10 ** 30, (1,), [], "")
        boxes = ((), None, True, 5, "", "12", (0, 1), ((0,),), ((0, 1, 2),), ((0, 1), ()), ((0, True),), ((0, None),),
                 (("0", "1"),), ((0, 10 ** 12),), (((0,), 1),), ((0, 1), None), ("01",))
        rows = ((), True, 5, "", "1", (None,), (True,), ("1",), ((1,),), (10 ** 12,), (0, -10 ** 12), [[]])
        demands = (None, True, 5, "", "meets", ("meets",), (("meets",),), (("meets", box, 0),), (("meet", box),),
                   (("all", box),), ((None, box),), (((), box),), (("meets", ((0,),)),), (("meets", ()),), (("meets", None),),
                   ("ab",), (("meets", box), ()), ((["meets"], box),))
        good = {
            "put": (1, box, row), "drop": (1,), "turn": (1, 2, row), "select": ((("meets", box),), 1), "count": ((), 1),
            "nearest": (1, box, 2), "skyline": (1,), "during": (box, 1, 2), "first": (box, row, 1, 2), "commit": (),
            "rollback": (),
        }
        kinds = {
            "put": (wholes, boxes, rows), "drop": (wholes,), "turn": (wholes, wholes, (*rows, None)),
            "select": (demands, wholes), "count": (demands, wholes), "nearest": (wholes, boxes, wholes),
            "skyline": (wholes,), "during": (boxes, wholes, wholes), "first": (boxes, (*rows, None), wholes, wholes),
            "commit": (), "rollback": (),
        }
        for kind, parts in good.items():
            printed((kind, *parts))
            self.no_statement((kind, *parts, 0))
            self.no_statement((kind, *parts, None))
            if parts:
                self.no_statement((kind, *parts[:-1]))
            for at, values in enumerate(kinds[kind]):
                for value in values:
                    for shape in (tuple, list):
                        self.no_statement(shape((kind, *parts[:at], value, *parts[at + 1:])))

    def test_other_values(self):
        for value in (
            None, True, 0, 5, "", "commit", "drop 5", (), [], ("com",), ("Commit",), ("all",), ("speed", 5), (None,), (True,),
            (0,), ((),), (("commit",),), [["commit"]], (5, "drop"), ("drop",), ("put", 1), ("commit", None), ("", 5),
        ):
            self.no_statement(value)


if __name__ == "__main__":
    unittest.main()
