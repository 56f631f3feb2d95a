"""Simulated disks: cells with texts, whose writes are only safe after a sync, and which may crash."""

from boundstead.errors import BadValue, Crashed
from boundstead.kinds import is_sequence, is_within

LAST_CELL = 1000000
MOST_CHARACTERS = 2000
MOST_STEPS = 1000000
MOST_FATES = 10000
GREATEST_FATE = 10000


def is_cell(value):
    """Whether value is the number of a cell."""
    return is_within(value, 0, LAST_CELL)


def is_cell_text(value):
    """Whether value is a text that a cell may hold."""
    if not isinstance(value, str) or len(value) > MOST_CHARACTERS:
        return False
    # Line feeds go out, and the percent sign, number 37, becomes what is not printable.
    plain = value.translate({10: None, 37: "\n"})
    return plain.isascii() and plain.isprintable()


def are_fates(value):
    """Whether value is a sequence of fates of pending writes."""
    if not is_sequence(value) or len(value) > MOST_FATES:
        return False
    return all([is_within(fate, 0, GREATEST_FATE) for fate in value])


class Disk:
    """A disk that forgets some of what was not synced when the power fails."""

    def __init__(self):
        # What is safe, what is read, and the writes in between.
        self._durable = {}
        self._shown = {}
        self._waiting = []
        self._steps_left = None
        self._is_down = False
        self._cells_read = []
        self._cells_written = []

    def write(self, cell, text):
        """Let the cell hold the text; pending until the next sync."""
        if not is_cell(cell):
            raise BadValue(0)
        if not is_cell_text(text):
            raise BadValue(1)
        self._step()
        self._waiting.append((cell, text))
        self._shown[cell] = text
        self._cells_written.append(cell)

    def read(self, cell):
        """The text of the cell, with all pending writes done."""
        if not is_cell(cell):
            raise BadValue(0)
        if self._is_down:
            raise Crashed()
        self._cells_read.append(cell)
        return self._shown.get(cell, "")

    def sync(self):
        """Make all pending writes durable."""
        self._step()
        for cell, text in self._waiting:
            self._durable[cell] = text
        self._waiting = []

    def pending(self):
        """The number of pending writes."""
        return len(self._waiting)

    def limit(self, steps):
        """Let the disk go down at the write or sync after so many more of them."""
        if not is_within(steps, 0, MOST_STEPS):
            raise BadValue(0)
        self._steps_left = steps

    def restart(self, fates):
        """Let the power fail and come back; of the k-th pending write as many characters last as its fate tells."""
        if not are_fates(fates):
            raise BadValue(0)
        for (cell, text), fate in zip(self._waiting, fates):
            self._durable[cell] = text[:fate] + self._durable.get(cell, "")[fate:]
        self._shown = dict(self._durable)
        self._waiting = []
        self._steps_left = None
        self._is_down = False

    def reads(self):
        """The cells that were read since the disk was made or told to forget."""
        return tuple(self._cells_read)

    def writes(self):
        """The cells that were written since the disk was made or told to forget."""
        return tuple(self._cells_written)

    def forget(self):
        """Begin anew to remember which cells are read and written."""
        self._cells_read = []
        self._cells_written = []

    def _step(self):
        """Count a write or a sync; Crashed if the disk is down or goes down now."""
        if self._steps_left == 0:
            self._is_down = True
        if self._is_down:
            raise Crashed()
        if self._steps_left is not None:
            self._steps_left = self._steps_left - 1
