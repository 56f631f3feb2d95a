"""The language: statements as texts."""

from boundstead.errors import BadSyntax, BadValue
from boundstead.questions import WORDS
from boundstead.statements import is_statement
from boundstead.tokens import Reader

# The word that stands for no condition.
ALL = "all"


def read_number(reader):
    """A number."""
    return reader.take_number()


def read_pair(reader):
    """A pair: one number for both ends, or two."""
    low = reader.take_number()
    if reader.due() != "..":
        return (low, low)
    reader.take(("..",))
    return (low, reader.take_number())


def read_series(reader, read_one):
    """One or more of what read_one reads, in brackets and with commas between them."""
    reader.take(("[",))
    parts = [read_one(reader)]
    while reader.take((",", "]")) == ",":
        parts.append(read_one(reader))
    return tuple(parts)


def read_list(reader):
    """A list of numbers."""
    return read_series(reader, read_number)


def read_box(reader):
    """A box."""
    return read_series(reader, read_pair)


def read_after(reader, word, read_one):
    """What read_one reads behind a word."""
    reader.take((word,))
    return read_one(reader)


def read_put(reader):
    """The parts of a put statement."""
    key = read_number(reader)
    box = read_box(reader)
    speed = read_after(reader, "speed", read_list) if reader.due() == "speed" else None
    return (key, box, speed)


def read_drop(reader):
    """The parts of a drop statement."""
    return (read_number(reader),)


def read_turn(reader):
    """The parts of a turn statement."""
    key = read_number(reader)
    time = read_after(reader, "at", read_number)
    return (key, time, read_after(reader, "speed", read_list))


def read_condition(reader):
    """A condition."""
    word = reader.take(WORDS)
    return (word, read_box(reader))


def read_conditions(reader):
    """Conditions with a word between them, or the word for none."""
    if reader.due() == ALL:
        reader.take((ALL,))
        return ()
    conditions = [read_condition(reader)]
    while reader.due() == "and":
        conditions.append(read_after(reader, "and", read_condition))
    return tuple(conditions)


def read_conditional(reader):
    """The parts of a select or count statement."""
    conditions = read_conditions(reader)
    return (conditions, read_after(reader, "at", read_number))


def read_nearest(reader):
    """The parts of a nearest statement."""
    many = read_number(reader)
    box = read_after(reader, "to", read_box)
    return (many, box, read_after(reader, "at", read_number))


def read_skyline(reader):
    """The parts of a skyline statement."""
    return (read_after(reader, "at", read_number),)


def read_during(reader):
    """The parts of a during statement."""
    box = read_box(reader)
    start = read_after(reader, "from", read_number)
    return (box, start, read_after(reader, "to", read_number))


def read_first(reader):
    """The parts of a first statement."""
    box = read_box(reader)
    speed = tuple([0 for _ in box])
    if reader.due() == "speed":
        speed = read_after(reader, "speed", read_list)
    start = read_after(reader, "from", read_number)
    return (box, speed, start, read_after(reader, "to", read_number))


def read_nothing(_):
    """The parts of a commit or rollback statement."""
    return ()


READERS = {
    "put": read_put,
    "drop": read_drop,
    "turn": read_turn,
    "select": read_conditional,
    "count": read_conditional,
    "nearest": read_nearest,
    "skyline": read_skyline,
    "during": read_during,
    "first": read_first,
    "commit": read_nothing,
    "rollback": read_nothing,
}


def parse(text):
    """The statement that the text is."""
    if not isinstance(text, str):
        raise BadSyntax(0)
    reader = Reader(text)
    word = reader.take(list(READERS))
    read_parts = READERS[word]
    parts = read_parts(reader)
    reader.finish()
    return (word, *parts)


def list_text(numbers):
    """The text of a list."""
    return "[" + ", ".join([str(number) for number in numbers]) + "]"


def pair_text(pair):
    """The text of a pair."""
    low, high = pair
    return str(low) if low == high else f"{low}..{high}"


def box_text(box):
    """The text of a box."""
    return "[" + ", ".join([pair_text(pair) for pair in box]) + "]"


def put_text(key, box, speed):
    """The text of the parts of a put statement."""
    tail = "" if speed is None else f" speed {list_text(speed)}"
    return f"{key} {box_text(box)}{tail}"


def drop_text(key):
    """The text of the parts of a drop statement."""
    return str(key)


def turn_text(key, time, speed):
    """The text of the parts of a turn statement."""
    return f"{key} at {time} speed {list_text(speed)}"


def conditional_text(conditions, time):
    """The text of the parts of a select or count statement."""
    told = [f"{word} {box_text(box)}" for word, box in conditions]
    return " and ".join(told or [ALL]) + f" at {time}"


def nearest_text(many, box, time):
    """The text of the parts of a nearest statement."""
    return f"{many} to {box_text(box)} at {time}"


def skyline_text(time):
    """The text of the parts of a skyline statement."""
    return f"at {time}"


def during_text(box, start, end):
    """The text of the parts of a during statement."""
    return f"{box_text(box)} from {start} to {end}"


def first_text(box, speed, start, end):
    """The text of the parts of a first statement."""
    rests = [0 for _ in box] == list(speed)
    middle = "" if rests else f" speed {list_text(speed)}"
    return f"{box_text(box)}{middle} from {start} to {end}"


WRITERS = {
    "put": put_text,
    "drop": drop_text,
    "turn": turn_text,
    "select": conditional_text,
    "count": conditional_text,
    "nearest": nearest_text,
    "skyline": skyline_text,
    "during": during_text,
    "first": first_text,
}


def printed(statement):
    """The text of the statement."""
    if not is_statement(statement):
        raise BadValue(0)
    word, *parts = statement
    if len(parts) == 0:
        return word
    write = WRITERS[word]
    told = write(*parts)
    return f"{word} {told}"
