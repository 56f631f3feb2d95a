"""Consoles: lines that are run on a store, their log, and running it again. [18] [67] [68]"""

import random
import unittest

from disk_helpers import TracedDisk, deed_of
from makers import KINDS, question_of

from boundstead.asking import answer
from boundstead.console import Console, replayed
from boundstead.disks import Disk
from boundstead.errors import BadLine, BadSyntax, Crashed, SpatialError
from boundstead.language import parse, printed
from boundstead.stores import Store


def fresh(axes=1, most=6, made=Disk):
    """A disk, a store and a console."""
    disk = made()
    store = Store.created(disk, axes, most=most)
    return disk, store, Console(store)


def told(kind, value):
    """What run returns for the answer to a question. [67]"""
    if kind == "count":
        return str(value)
    if kind == "nearest":
        return ", ".join(f"{key} at {distance}" for distance, key in value) if value else "none"
    if kind == "first":
        return f"{value[0][0]}/{value[0][1]}: " + " ".join(map(str, value[1])) if value else "never"
    return " ".join(map(str, value)) if value else "none"


def random_line(rng, tree):
    """A line: a deed or a question, now and then one that raises an error."""
    kind = rng.choice(("deed", "deed", "deed", "question", "commit", "rollback", "wrong"))
    if kind == "deed":
        return printed(deed_of(rng, tree, most=60))
    if kind == "question":
        return printed(question_of(rng, tree.axes, rng.choice(KINDS)))
    if kind == "wrong":
        return rng.choice(("drop 999999999", "put 1 [5..1]", "put -1 [1]", "skyline at 2000", "turn 5 at 1 speed [101]",
                           "nearest 0 to [1] at 0", "select meets [1, 1, 1, 1, 1] at 0"))
    return kind


def text_of(line, rng):
    """The line with other spaces."""
    return " " * rng.randint(0, 2) + line.replace(" ", " " * rng.randint(1, 3)) + " " * rng.randint(0, 2)


class ConsoleTest(unittest.TestCase):
    def error(self, kind, at, call, *args, **named):
        with self.assertRaises(SpatialError) as caught:
            call(*args, **named)
        self.assertEqual((type(caught.exception), list(vars(caught.exception).values())), (kind, [at]))

    def run_lines(self, console, rows):
        """Run the lines, which return what stands beside them; all of them come to be in the log."""
        before = console.log()
        for line, result in rows:
            self.assertEqual(console.run(line), result, line)
        self.assertEqual(console.log(), before + "".join(printed(parse(line)) + "\n" for line, _ in rows))


class RunTest(ConsoleTest):
    def test_each_form(self):
        _, store, console = fresh()
        self.assertEqual(console.log(), "")
        self.run_lines(console, (
            ("select all at 0", "none"),
            ("count all at 0", "0"),
            ("nearest 3 to [0] at 0", "none"),
            ("skyline at 0", "none"),
            ("during [0..9] from 0 to 5", "none"),
            ("first [0] from 0 to 5", "never"),
            ("put 7 [0..3] speed [1]", "ok"),
            ("put 1000000000 [10..12]", "ok"),
            (" put  0[ 20 ]speed[-3]", "ok"),
            ("select all at 0", "0 7 1000000000"),
            ("select meets [12..20] and inside [0..15] at 0", "1000000000"),
            ("count meets [12..20] at 0", "2"),
            ("count all at 0", "3"),
            ("nearest 2 to [5] at 0", "7 at 4, 1000000000 at 25"),
            ("nearest 1 to [0] at 1", "7 at 1"),
            ("nearest 100 to [-5..-5] at 0", "7 at 25, 1000000000 at 225, 0 at 625"),
            ("skyline at 5", "0 7"),
            ("during [16..17] from 0 to 2", "0"),
            ("during [16..17] from 0 to 13", "0 7"),
            ("first [16..17] from 0 to 9", "1/1: 0"),
            ("first [-1] speed [4] from 0 to 9", "1/3: 7"),
            ("first [13..13] speed [-1] from 0 to 9", "1/1: 1000000000"),
            ("first [15..15] speed [-1] from 0 to 9", "5/2: 0"),
            ("first [3..10] from 0 to 9", "0/1: 7 1000000000"),
            ("first [40] speed [-1] from 0 to 9", "never"),
            ("turn 7 at 4 speed [0]", "ok"),
            ("select meets [4..4] at 0", "7"),
            ("drop 0", "ok"),
            ("rollback", "ok"),
            ("count all at 0", "0"),
            ("put 5 [1]", "ok"),
            ("commit", "ok"),
            ("commit", "ok"),
            ("drop 5", "ok"),
            ("rollback", "ok"),
            ("select all at 3", "5"),
        ))
        self.assertEqual(store.tree().all_items(), ((5, ((1, 1),), (0,)),))
        self.assertIs(store.changed(), False)
        self.assertEqual(console.run(line="drop 5"), "ok")
        self.assertIs(store.changed(), True)

    def test_errors(self):
        _, store, console = fresh()
        console.run("put 1 [5..9] speed [100]")
        console.run("commit")
        console.run("put 2 [999999]")
        tree = store.tree()
        rows = [
            ("put 1 [0]", "error TakenKey"), ("put 3 [0, 0]", "error BadValue"), ("put 3 [5..1]", "error BadValue"),
            ("put -3 [5]", "error BadValue"), ("put 1000000001 [5]", "error BadValue"), ("put 3 [5] speed [101]", "error BadValue"),
            ("put 3 [5] speed [1, 1]", "error BadValue"), ("put 3 [999999999999]", "error BadValue"),
            ("drop 3", "error NoItem"), ("drop -1", "error BadValue"), ("turn 3 at 0 speed [0]", "error NoItem"),
            ("turn 1 at 1001 speed [0]", "error BadValue"), ("turn 1 at 0 speed [0, 0]", "error BadValue"),
            ("turn 2 at 1000 speed [-1]", "error OutOfRange"), ("select all at 1001", "error BadValue"),
            ("select all at -1", "error BadValue"), ("count meets [0, 0] at 0", "error BadValue"),
            ("select meets [5..1] at 0", "error BadValue"), ("nearest 0 to [0] at 0", "error BadValue"),
            ("nearest 101 to [0] at 0", "error BadValue"), ("nearest 1 to [0, 0] at 0", "error BadValue"),
            ("skyline at 1001", "error BadValue"), ("during [0] from 5 to 4", "error BadValue"),
            ("first [0] from 0 to 1001", "error BadValue"), ("first [0] speed [0, 0] from 0 to 1", "error BadValue"),
            ("first [0, 0] from 0 to 1", "error BadValue"), ("first [0] speed [101] from 0 to 1", "error BadValue"),
            ("select " + " and ".join(["meets [0]"] * 5) + " at 0", "error BadValue"),
            ("count " + " and ".join(["meets [0..999]"] * 4) + " at 0", "1"),
        ]
        self.run_lines(console, rows)
        self.assertEqual(store.tree(), tree)
        self.assertIs(store.changed(), True)
        for key in range(100, 298):
            console.run(f"put {key} [0]")
        self.run_lines(console, [("put 9 [0]", "error TooMany"), ("count all at 0", "200")])
        self.assertEqual(len(store.tree()), 200)

    def test_bad_syntax(self):
        disk, store, console = fresh(made=TracedDisk)
        console.run("put 1 [5]")
        log, tree, trace = console.log(), store.tree(), list(disk.trace)
        for at, line in ((0, ""), (5, "drop x"), (6, "drop 1\n"), (4, "drop"), (0, None), (0, True), (0, 5), (0, ["drop 1"]),
                         (5, "drop 01"), (7, "drop 1 1"), (0, ("drop", 1))):
            self.error(BadSyntax, at, console.run, line)
        self.assertEqual((console.log(), store.tree(), disk.trace), (log, tree, trace))

    def test_random_lines(self):
        rng = random.Random(67)
        for axes in (1, 2, 4):
            _, store, console = fresh(axes, 8)
            for _ in range(200):
                line = random_line(rng, store.tree())
                statement, tree = parse(line), store.tree()
                found = console.run(text_of(line, rng))
                if statement[0] in KINDS and not found.startswith("error"):
                    self.assertEqual(found, told(statement[0], answer(tree, statement)))
                if statement[0] in KINDS or found.startswith("error"):
                    self.assertEqual(store.tree(), tree)
                else:
                    self.assertEqual(found, "ok")

    def test_questions_read_the_cells(self):
        disk, store, console = fresh()
        for key in range(20):
            console.run(f"put {key} [{key}]")
        console.run("commit")
        disk.forget()
        self.assertEqual(console.run("count inside [-9..99] at 0"), "20")
        self.assertEqual(disk.reads(), ())
        console.run("select meets [0] at 0")
        self.assertEqual(len(disk.reads()), 1)

    def test_crashed_is_let_through(self):
        for limit in range(6):
            disk, store, console = fresh(made=TracedDisk)
            console.run("put 1 [5]")
            log = console.log()
            disk.limit(limit)
            try:
                self.assertEqual(console.run("commit"), "ok")
                self.assertEqual(console.log(), log + "commit\n")
                break
            except Crashed:
                self.assertEqual(console.log(), log)
        self.assertGreater(limit, 1)
        disk, store, console = fresh()
        disk.limit(0)
        with self.assertRaises(Crashed):
            disk.sync()
        log = console.log()
        with self.assertRaises(Crashed):
            console.run("skyline at 0")
        self.assertEqual(console.log(), log)
        # What needs no disk goes on.
        self.assertEqual(console.run("put 1 [5]"), "ok")
        self.assertEqual(console.run("drop 2"), "error NoItem")
        self.assertEqual(console.log(), log + "put 1 [5]\ndrop 2\n")


class ReplayedTest(ConsoleTest):
    def test_the_log_leads_to_the_same_states(self):
        rng = random.Random(68)
        for axes in (1, 2, 3):
            for most in (6, 12):
                _, store, console = fresh(axes, most)
                other_disk, other, _ = fresh(axes, most)
                for _ in range(150):
                    console.run(text_of(random_line(rng, store.tree()), rng))
                again = replayed(other, console.log())
                self.assertIsInstance(again, Console)
                self.assertEqual(again.log(), console.log())
                self.assertEqual((other.tree(), other.changed()), (store.tree(), store.changed()))
                other.rollback()
                store.rollback()
                self.assertEqual(other.tree(), store.tree())
                self.assertEqual(Store.opened(other_disk).tree(), store.tree())
                self.assertEqual(again.run("count all at 0"), str(len(store.tree())))

    def test_from_equal_states_that_are_not_empty(self):
        rng = random.Random(69)
        stores = []
        for _ in range(2):
            _, store, console = fresh(2)
            for line in ("put 1 [5, 5]", "put 2 [6, 6] speed [1, 1]", "commit", "drop 1"):
                console.run(line)
            stores.append(store)
        console = Console(stores[0])
        for _ in range(80):
            console.run(random_line(rng, stores[0].tree()))
        replayed(log=console.log(), store=stores[1])
        self.assertEqual(stores[1].tree(), stores[0].tree())
        for store in stores:
            store.rollback()
        self.assertEqual(stores[1].tree(), stores[0].tree())

    def test_the_log_is_printed_anew(self):
        _, store, _ = fresh()
        again = replayed(store, "  put 1[5..5]\nput  2 [ 3 .. 4 ] \ncommit\ndrop9\n")
        self.assertEqual(again.log(), "put 1 [5]\nput 2 [3..4]\ncommit\ndrop 9\n")
        self.assertEqual(len(store.tree()), 2)

    def test_an_empty_log(self):
        disk, store, console = fresh(made=TracedDisk)
        disk.counts()
        again = replayed(store, "")
        self.assertEqual((again.log(), disk.trace, len(store.tree())), ("", [], 0))
        self.assertIsInstance(again, Console)
        self.assertEqual(again.run("put 1 [5]"), "ok")

    def test_bad_lines(self):
        for at, log, keys in (
            (0, "x\n", ()), (0, "\n", ()), (0, "put 1 [5]", ()), (0, " ", ()), (0, "commit ;\n", ()),
            (1, "put 1 [5]\nput 2 [5]", (1,)), (1, "put 1 [5]\n\nput 2 [5]\n", (1,)), (1, "put 1 [5]\nx\n", (1,)),
            (1, "put 1 [5]\nx", (1,)), (1, "put 1 [5]\n ", (1,)), (2, "put 1 [5]\nput 1 [6]\nput 2 [5], \n", (1,)),
            (2, "put 1 [5]\ndrop 7\nput 2 [5]", (1,)), (3, "put 1 [5]\nput 2 [5]\ndrop 1\n\n", (2,)),
            (1, "put 1 [5]\nput 02 [5]\nput 3 [5]", (1,)), (1, "put 1 [5]\n5\nput 3 [5]\nput", (1,)),
        ):
            _, store, _ = fresh()
            self.error(BadLine, at, replayed, store, log)
            self.assertEqual(tuple(item[0] for item in store.tree().all_items()), keys, log)
        _, store, _ = fresh()
        for log in (None, True, 0, (), [], ["commit\n"], ("commit\n",)):
            self.error(BadLine, 0, replayed, store, log)

    def test_a_long_log(self):
        _, store, _ = fresh()
        line = "put 1 [" + "0" + ", 0" * 300 + "]\n"
        log = line * (200000 // len(line))
        self.assertEqual(replayed(store, log).log(), log)

    def test_crashed_is_let_through(self):
        disk, store, _ = fresh()
        disk.limit(0)
        with self.assertRaises(Crashed):
            replayed(store, "put 1 [5]\ncommit\nx\n")
        self.assertEqual(len(store.tree()), 1)


if __name__ == "__main__":
    unittest.main()
