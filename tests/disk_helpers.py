"""Disks whose calls are counted and whose cells are shown, and deeds for stores, for tests of stores."""

import copy

from makers import small_box, speed_of

from boundstead.disks import Disk
from boundstead.errors import Crashed, SpatialError


class TracedDisk(Disk):
    """A disk that remembers its writes and syncs in their order."""

    def __init__(self):
        super().__init__()
        self.trace = []

    def write(self, cell, text):
        super().write(cell, text)
        self.trace.append((cell, text))

    def sync(self):
        super().sync()
        self.trace.append("sync")

    def counts(self):
        """The number of writes and the number of syncs since the last call."""
        syncs = self.trace.count("sync")
        writes = len(self.trace) - syncs
        self.trace = []
        return writes, syncs


def texts_of(disk, cells=range(1000)):
    """The texts of the cells, read from a copy so that the disk does not count it."""
    twin = copy.deepcopy(disk)
    return {cell: twin.read(cell) for cell in cells}


def same_texts(disk, made=Disk):
    """Another disk whose cells hold the same texts."""
    other = made()
    for cell, text in texts_of(disk).items():
        if text:
            other.write(cell, text)
    other.sync()
    other.forget()
    return other


def restarted(disk, fates):
    """A copy of the disk after the power failed."""
    twin = copy.deepcopy(disk)
    twin.restart(fates)
    twin.forget()
    return twin


def do(target, deed):
    """Do a deed, a tuple of its name and what is passed, to a tree or a store."""
    name, *args = deed
    if name == "put":
        target.put(args[0], args[1], speed=args[2])
    elif name == "drop":
        target.drop(args[0])
    elif name == "turn":
        target.turn(args[0], args[1], speed=args[2])
    else:
        getattr(target, name)()


def outcome(target, deed):
    """None, or the kind and the attributes of the error that the deed raises."""
    try:
        do(target, deed)
    except SpatialError as error:
        return type(error), vars(error)
    return None


def deed_of(rng, tree, room=30, most=200):
    """A deed that the tree does not refuse, or hardly ever."""
    keys = [item[0] for item in tree.all_items()]
    kind = rng.choice(("put", "put", "drop", "turn"))
    if not keys or kind == "put" and len(keys) < most:
        return ("put", rng.randint(0, 10 ** 6), small_box(rng, tree.axes, room, 4), speed_of(rng, tree.axes, 2))
    if kind == "turn":
        return ("turn", rng.choice(keys), rng.randint(0, 9), speed_of(rng, tree.axes, 2))
    return ("drop", rng.choice(keys))


def changed_pages(one, other):
    """The number of page numbers whose rows differ or exist in one of two trees alone. [61]"""
    rows = [{row[0]: row for row in tree.pages()} for tree in (one, other)]
    return sum(rows[0].get(number) != rows[1].get(number) for number in {*rows[0], *rows[1]})


def is_cut_off(disk, limit, call):
    """Whether the call raises Crashed when the disk has the limit."""
    disk.limit(limit)
    try:
        call()
    except Crashed:
        return True
    return False


FATES = (
    (), (10000,) * 99, (0, 10000) * 50, (10000, 0) * 50, (1,) * 99, (11,) * 99, (12,) * 99, (13,) * 99, (20,) * 99,
    (30,) * 99, (60,) * 99, (1000,) * 99, (1987,) * 99, (1988,) * 99, (1989,) * 99, (1998,) * 99, (1999,) * 99,
    (2000,) * 99, (5, 10000, 0, 1, 40) * 20,
)
