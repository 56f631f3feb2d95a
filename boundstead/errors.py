"""The errors of Boundstead: one class for each kind of failure."""


class SpatialError(Exception):
    """The base class of all errors of Boundstead."""


class BadValue(SpatialError):
    """An argument is not as described: at is its zero-based position."""

    def __init__(self, at):
        self.at = at


class NoItem(SpatialError):
    """The tree has no item with the key."""

    def __init__(self, key):
        self.key = key


class TakenKey(SpatialError):
    """The tree already has an item with the key."""

    def __init__(self, key):
        self.key = key


class OutOfRange(SpatialError):
    """The new box of the item with the key would leave the range."""

    def __init__(self, key):
        self.key = key


class NoPage(SpatialError):
    """The number, any value that was passed, is that of no page."""

    def __init__(self, number):
        self.number = number


class TooMany(SpatialError):
    """There would be more than allowed of what the word names."""

    def __init__(self, word):
        self.word = word


class BadCut(SpatialError):
    """A text is no true cut: at is the number of its first wrong line."""

    def __init__(self, at):
        self.at = at


class BadBound(SpatialError):
    """A bound is not true: at is the position of its first wrong member."""

    def __init__(self, at):
        self.at = at


class BadSyntax(SpatialError):
    """A text is no statement: at is the position where it goes wrong."""

    def __init__(self, at):
        self.at = at


class BadLine(SpatialError):
    """A log is wrong: at is the number of its first wrong line."""

    def __init__(self, at):
        self.at = at


class BadPages(SpatialError):
    """No well-formed tree has the pages."""


class Crashed(SpatialError):
    """The disk is down."""


class NoStore(SpatialError):
    """The disk holds no store."""


class TakenDisk(SpatialError):
    """The disk already holds a store."""


class Closed(SpatialError):
    """The view is closed."""
