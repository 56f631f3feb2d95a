"""Simulated disks: writes, syncs, limits, and what is left after the power failed. [58] [59]"""

import copy
import random
import unittest

from helpers import is_plain

from boundstead.disks import Disk
from boundstead.errors import BadValue, Crashed, SpatialError

NO_CELLS = (-1, 1000001, 10 ** 30, True, False, None, "0", "", (0,), [], [0])
NO_TEXTS = (
    "x" * 2001, "\n" * 2001, "50" + chr(37), chr(37), "a\tb", "\r", "\x00", "\x1f", "\x7f", "\u00e9", "\u2028", "\x85",
    None, True, 0, ("a",), [], ["a"], b"a",
)
NO_STEPS = (-1, 1000001, 10 ** 30, True, False, None, "3", (1,), [])
NO_FATES = (
    None, True, 0, 5, "", "12", (-1,), (10001,), (True,), (0, False), (None,), ("1",), ((1,),), [[1]], (0,) * 10001,
    [0, 10 ** 30], (1, -1),
)


class ModelDisk:
    """[58] and [59] word by word: durable texts, and the rows of pending writes."""

    def __init__(self):
        self.cells, self.rows, self.left, self.down, self.told = {}, [], None, False, ([], [])

    def text(self, cell):
        for at, text in reversed(self.rows):
            if at == cell:
                return text
        return self.cells.get(cell, "")

    def step(self):
        if not self.down and self.left == 0:
            self.down = True
        if self.down:
            return False
        if self.left is not None:
            self.left -= 1
        return True

    def write(self, cell, text):
        if not self.step():
            return "crashed"
        self.rows.append((cell, text))
        self.told[1].append(cell)

    def sync(self):
        if not self.step():
            return "crashed"
        self.cells.update(self.rows)
        self.rows = []

    def read(self, cell):
        if self.down:
            return "crashed"
        self.told[0].append(cell)
        return self.text(cell)

    def restart(self, fates):
        fates = list(fates) + [0] * len(self.rows)
        for (cell, text), fate in zip(self.rows, fates):
            old = self.cells.get(cell, "")
            self.cells[cell] = "".join(text[at] for at in range(min(fate, len(text)))) + old[fate:]
        self.rows, self.left, self.down = [], None, False


class DiskTest(unittest.TestCase):
    def error(self, at, call, *args, **named):
        with self.assertRaises(SpatialError) as caught:
            call(*args, **named)
        self.assertEqual((type(caught.exception), caught.exception.at), (BadValue, at), args)

    def crash(self, call, *args):
        with self.assertRaises(Crashed):
            call(*args)

    def test_cells_and_texts(self):
        disk = Disk()
        self.assertEqual((disk.pending(), disk.reads(), disk.writes()), (0, (), ()))
        every = "".join(chr(code) for code in range(32, 127) if code != 37)
        for cell, text in ((0, "a"), (1000000, every), (7, "x" * 2000), (8, "\n" * 2000), (9, "a b\n\n c\n"), (10, "")):
            self.assertEqual(disk.read(cell), "")
            self.assertIsNone(disk.write(cell, text))
            self.assertEqual(disk.read(cell=cell), text)
        self.assertEqual(disk.pending(), 6)
        self.assertIsNone(disk.sync())
        self.assertEqual(disk.pending(), 0)
        self.assertEqual(disk.read(1000000), every)
        disk.write(text="", cell=0)
        self.assertEqual((disk.read(0), disk.pending()), ("", 1))
        self.assertEqual(disk.writes(), (0, 1000000, 7, 8, 9, 10, 0))
        self.assertEqual(disk.reads(), (0, 0, 1000000, 1000000, 7, 7, 8, 8, 9, 9, 10, 10, 1000000, 0))
        self.assertTrue(is_plain(disk.reads()) and is_plain(disk.writes()))
        told = disk.writes()
        self.assertIsNone(disk.forget())
        self.assertEqual((disk.reads(), disk.writes(), len(told)), ((), (), 7))
        disk.read(3)
        self.assertEqual((disk.reads(), disk.writes()), ((3,), ()))
        self.assertEqual(Disk().read(0), "")

    def test_wrong_cells_and_texts(self):
        disk = Disk()
        disk.write(1, "kept")
        for cell in NO_CELLS:
            self.error(0, disk.read, cell)
            for text in ("fine", *NO_TEXTS):
                self.error(0, disk.write, cell, text)
        for text in NO_TEXTS:
            self.error(1, disk.write, 1, text)
            self.error(1, disk.write, text=text, cell=1000000)
        self.assertEqual((disk.reads(), disk.writes(), disk.pending()), ((), (1,), 1))
        self.assertEqual(disk.read(1), "kept")

    def test_limits(self):
        for steps in range(6):
            disk = Disk()
            disk.write(1, "before")
            self.assertIsNone(disk.limit(steps))
            done = [
                lambda: disk.write(1, "one"), disk.sync, disk.sync, lambda: disk.write(2, "two"), disk.sync,
                lambda: disk.write(3, "three"),
            ]
            for call in done[:steps]:
                call()
                self.assertEqual(disk.read(0), "")
            before = disk.pending(), disk.writes()
            self.crash(done[steps])
            self.assertEqual((disk.pending(), disk.writes()), before)
            for call in done:
                self.crash(call)
            self.crash(disk.read, 1)
            self.assertEqual((disk.pending(), disk.writes()), before)
            self.assertEqual(disk.reads(), (0,) * steps)

    def test_a_disk_that_is_down(self):
        disk = Disk()
        disk.write(1, "one")
        disk.limit(0)
        # Wrong values are found first, and do not bring the disk down.
        self.error(0, disk.write, -1, "a")
        self.error(1, disk.write, 1, None)
        self.assertEqual(disk.read(1), "one")
        self.crash(disk.write, 1, "two")
        self.error(0, disk.write, True, "a")
        self.error(1, disk.write, 1, "\t")
        self.error(0, disk.read, None)
        self.crash(disk.read, 1)
        self.crash(disk.sync)
        self.assertEqual((disk.pending(), disk.reads(), disk.writes()), (1, (1,), (1,)))
        for steps in NO_STEPS:
            self.error(0, disk.limit, steps)
        for fates in NO_FATES:
            self.error(0, disk.restart, fates)
        disk.limit(1000000)
        self.crash(disk.read, 1)
        self.crash(disk.write, 1, "two")
        self.crash(disk.sync)
        disk.forget()
        self.assertEqual((disk.pending(), disk.reads(), disk.writes()), (1, (), ()))
        disk.restart((3,))
        self.assertEqual((disk.read(1), disk.pending()), ("one", 0))
        # It has no limit now.
        for _ in range(50):
            disk.write(1, "two")
            disk.sync()
        self.assertEqual((disk.read(1), len(disk.writes())), ("two", 50))

    def test_a_later_limit(self):
        disk = Disk()
        disk.limit(0)
        disk.limit(2)
        disk.write(1, "a")
        disk.limit(steps=1)
        disk.sync()
        self.crash(disk.sync)
        disk = Disk()
        for steps in NO_STEPS:
            self.error(0, disk.limit, steps)
        disk.sync()
        disk.limit(1)
        for steps in NO_STEPS:
            self.error(0, disk.limit, steps)
        disk.sync()
        self.crash(disk.write, 1, "a")

    def test_fates(self):
        for old, new, fate, told in (
            ("abcdef", "123", 0, "abcdef"),
            ("abcdef", "123", 1, "1bcdef"),
            ("abcdef", "123", 3, "123def"),
            ("abcdef", "123", 4, "123ef"),
            ("abcdef", "123", 5, "123f"),
            ("abcdef", "123", 6, "123"),
            ("abcdef", "123", 10000, "123"),
            ("abc", "123456", 2, "12c"),
            ("abc", "123456", 3, "123"),
            ("abc", "123456", 5, "12345"),
            ("abc", "123456", 6, "123456"),
            ("", "123", 2, "12"),
            ("abc", "", 0, "abc"),
            ("abc", "", 1, "bc"),
            ("abc", "", 3, ""),
            ("a" * 2000, "b" * 2000, 1999, "b" * 1999 + "a"),
        ):
            disk = Disk()
            disk.write(5, old)
            disk.sync()
            disk.write(5, new)
            self.assertIsNone(disk.restart([fate]))
            self.assertEqual((disk.read(5), disk.pending()), (told, 0), (old, new, fate))
            # What is left is durable.
            disk.restart(fates=(0, 0))
            self.assertEqual(disk.read(5), told)

    def test_several_pending_writes(self):
        for fates, told in (
            ((), ("aaaa", "bbbb", "")),
            ((2,), ("11aa", "bbbb", "")),
            ((2, 3), ("11aa", "222b", "")),
            ((2, 3, 1), ("31aa", "222b", "")),
            ((4, 0, 3), ("3331", "bbbb", "")),
            ((0, 4, 4, 4), ("333", "2222", "4444")),
            ([9, 9, 9, 9, 9, 10000], ("333", "2222", "4444")),
            ((0, 0, 0, 0, 7), ("aaaa", "bbbb", "")),
            ((0,) * 10000, ("aaaa", "bbbb", "")),
        ):
            disk = Disk()
            disk.write(1, "aaaa")
            disk.write(2, "bbbb")
            disk.sync()
            for cell, text in ((1, "1111"), (2, "2222"), (1, "333"), (3, "4444")):
                disk.write(cell, text)
            self.assertEqual(disk.read(1), "333")
            kept = copy.deepcopy(fates)
            disk.restart(fates)
            self.assertEqual(fates, kept)
            self.assertEqual((disk.read(1), disk.read(2), disk.read(3)), told, fates)
            self.assertEqual((disk.writes(), disk.reads()), ((1, 2, 1, 2, 1, 3), (1, 1, 2, 3)))

    def test_wrong_fates(self):
        disk = Disk()
        disk.write(1, "aaaa")
        disk.limit(3)
        for fates in NO_FATES:
            self.error(0, disk.restart, fates)
        self.assertEqual((disk.read(1), disk.pending()), ("aaaa", 1))
        for _ in range(3):
            disk.sync()
        self.crash(disk.sync)

    def test_random_calls(self):
        rng = random.Random(58)
        crashes = 0
        for _ in range(200):
            disk, model = Disk(), ModelDisk()
            for _ in range(rng.randint(1, 60)):
                cell = rng.choice((0, 1, 2, 1000000))
                text = rng.choice("abc\n ") * rng.choice((0, 1, 5, 9, 2000))
                kind = rng.choice(("write", "write", "write", "sync", "read", "limit", "restart", "forget"))
                args = {"write": (cell, text), "read": (cell,)}.get(kind, ())
                if kind in ("write", "sync", "read"):
                    try:
                        told = getattr(disk, kind)(*args)
                    except Crashed:
                        told = "crashed"
                        crashes += 1
                    self.assertEqual(told, getattr(model, kind)(*args))
                elif kind == "limit" and rng.random() < 0.3:
                    model.left = rng.randint(0, 12)
                    disk.limit(model.left)
                elif kind == "restart" and rng.random() < 0.4:
                    fates = [rng.choice((0, 1, 3, 6, 1999, 2000, 10000)) for _ in range(rng.randint(0, 8))]
                    disk.restart(fates)
                    model.restart(fates)
                elif kind == "forget":
                    disk.forget()
                    model.told = ([], [])
                self.assertEqual(disk.pending(), len(model.rows))
                self.assertEqual((list(disk.reads()), list(disk.writes())), model.told)
        self.assertGreater(crashes, 100)


if __name__ == "__main__":
    unittest.main()
