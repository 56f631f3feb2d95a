"""Records: texts that tell of all pages of a store's tree, and in which cells its leaf pages are."""

STAMP_WIDTH = 12
RECORD_WIDTH = 2000


def words_of(numbers):
    """The numbers as words with one space between them."""
    return " ".join([str(number) for number in numbers])


def numbers_in(line):
    """The numbers of a line of words."""
    return [int(word) for word in line.split(" ")]


def record_text(sequence, tree, cells):
    """The record of a state: its sequence number, its tree's pages, and the cells of the leaf pages."""
    # A write that is cut off leaves a first part of the new text and the rest of the old one.
    # All records have the same width and, at either end, their sequence number, which differs
    # from that of the record below; so whatever is neither the old record nor the new one has
    # another width, or different numbers at its ends.
    stamp = str(sequence).zfill(STAMP_WIDTH)
    lines = [words_of([tree.axes, tree.most])]
    for number, level, entries in tree.pages():
        places = (cells[number],) if level == 0 else entries
        lines.append(words_of([number, level, *places]))
    return stamp + "\n".join(lines).ljust(RECORD_WIDTH - 2 * STAMP_WIDTH) + stamp


def parsed_record(text):
    """The sequence number, axes, most and rows (number, level, kids, or cell) of a record; None for no record."""
    stamp = text[:STAMP_WIDTH]
    if len(text) != RECORD_WIDTH or stamp != text[-STAMP_WIDTH:] or not stamp.isdigit():
        return None
    body = text[STAMP_WIDTH:-STAMP_WIDTH].rstrip(" ")
    (axes, most), *lines = [numbers_in(line) for line in body.split("\n")]
    rows = [(number, level, tuple(entries)) for number, level, *entries in lines]
    return (int(stamp), axes, most, rows)
