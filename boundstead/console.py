"""Consoles: statements carried out on a store, with a log that can be run again."""

from boundstead.errors import BadLine, BadSyntax, BadValue, NoItem, OutOfRange, TakenKey, TooMany
from boundstead.language import parse, printed

DEEDS = ("put", "drop", "turn", "commit", "rollback")


def do_deed(store, word, parts):
    """Carry out a statement that is no question."""
    if word == "put":
        key, box, speed = parts
        store.put(key, box, speed=speed)
    elif word == "drop":
        store.drop(parts[0])
    elif word == "turn":
        key, time, speed = parts
        store.turn(key, time, speed=speed)
    elif word == "commit":
        store.commit()
    else:
        store.rollback()


def keys_text(keys):
    """The keys with one space between them."""
    return " ".join([str(key) for key in keys])


def told_text(word, told):
    """The text of the answer to a question of this kind."""
    if word == "count":
        return str(told)
    if word == "nearest":
        return ", ".join([f"{key} at {distance}" for distance, key in told]) or "none"
    if word == "first":
        if told is None:
            return "never"
        (top, bottom), keys = told
        return f"{top}/{bottom}: {keys_text(keys)}"
    return keys_text(told) or "none"


def result_of(store, statement):
    """The text of what comes of a statement that raises no error."""
    word, *parts = statement
    if word not in DEEDS:
        return told_text(word, store.ask(statement))
    do_deed(store, word, parts)
    return "ok"


def outcome(store, statement):
    """The text of what comes of carrying out the statement."""
    # These are all errors that a store raises here, but for Crashed, which is let through.
    try:
        return result_of(store, statement)
    except BadValue:
        return "error BadValue"
    except NoItem:
        return "error NoItem"
    except OutOfRange:
        return "error OutOfRange"
    except TakenKey:
        return "error TakenKey"
    except TooMany:
        return "error TooMany"


class Console:
    """A store that is told what to do by lines."""

    def __init__(self, store):
        self._store = store
        self._lines = []

    def run(self, line):
        """Carry out the statement of the line; what came of it."""
        statement = parse(line)
        told = outcome(self._store, statement)
        self._lines.append(printed(statement) + "\n")
        return told

    def log(self):
        """The statements that were carried out, one in each line."""
        return "".join(self._lines)


def replayed(store, log):
    """A console of the store on which all lines of the log have been run."""
    if not isinstance(log, str):
        raise BadLine(0)
    console = Console(store)
    *lines, tail = log.split("\n")
    for at, line in enumerate(lines):
        try:
            console.run(line)
        except BadSyntax:
            raise BadLine(at)
    # A last line that has no line feed is none, even if it is a statement.
    if tail != "":
        raise BadLine(len(lines))
    return console
