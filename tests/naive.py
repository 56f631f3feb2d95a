"""The document's definitions, followed word by word and slowly, to test against."""

import functools
import re
from fractions import Fraction


def rests(*boxes):
    """Items with the keys 0, 1, .. and these boxes, which rest."""
    return tuple((key, box, (0,) * len(box)) for key, box in enumerate(boxes))


def bounds_of(items):
    """[26]"""
    axes = range(len(items[0][1]))
    return tuple(
        (
            min(item[1][axis][0] for item in items),
            max(item[1][axis][1] for item in items),
            min(item[2][axis] for item in items),
            max(item[2][axis] for item in items),
        )
        for axis in axes
    )


def joined(*many):
    """[26], for any number of bounds."""
    return tuple(
        (
            min(bounds[axis][0] for bounds in many),
            max(bounds[axis][1] for bounds in many),
            min(bounds[axis][2] for bounds in many),
            max(bounds[axis][3] for bounds in many),
        )
        for axis in range(len(many[0]))
    )


def ranges(bounds):
    """The integers from low + slow to high + fast, for each axis."""
    return [range(low + slow, high + fast + 1) for low, high, slow, fast in bounds]


def reach(bounds):
    """[27]"""
    many = 1
    for each in ranges(bounds):
        many *= len(each)
    return many


def shared(one, other):
    """[27]"""
    many = 1
    for mine, its in zip(ranges(one), ranges(other)):
        many *= len(range(max(mine.start, its.start), min(mine.stop, its.stop)))
    return many


def divisions(entries, least):
    """The candidate divisions of [28], in their order, with their costs."""
    for axis in range(len(entries[0])):
        for side in ("low", "high"):
            for cut in range(least, len(entries) - least + 1):
                order = list(range(len(entries)))
                if side == "low":
                    order.sort(key=lambda at: (entries[at][axis][0] + entries[at][axis][2], at))
                else:
                    order.sort(key=lambda at: (entries[at][axis][1] + entries[at][axis][3], at))
                groups = tuple(sorted(order[:cut])), tuple(sorted(order[cut:]))
                one, other = (joined(*[entries[at] for at in group]) for group in groups)
                yield (shared(one, other), reach(one) + reach(other)), groups


def best_split(entries, least):
    """[28]"""
    candidates = list(divisions(entries, least))
    least_cost = min(cost for cost, _ in candidates)
    groups = next(groups for cost, groups in candidates if cost == least_cost)
    return groups if 0 in groups[0] else groups[::-1]


def best_kid(entries, bounds):
    """[28]"""
    growth = [reach(joined(entry, bounds)) - reach(entry) for entry in entries]
    at_best = [at for at in range(len(entries)) if growth[at] == min(growth)]
    smallest = min(reach(entries[at]) for at in at_best)
    return next(at for at in at_best if reach(entries[at]) == smallest)


def place(item, moment):
    """[21]"""
    return [(low + rate * moment, high + rate * moment) for (low, high), rate in zip(item[1], item[2])]


def distance(item, box, time):
    """[30]"""
    gap = 0
    for (low, high), (far_low, far_high) in zip(place(item, time), box):
        if high < far_low:
            gap += (far_low - high) ** 2
        elif far_high < low:
            gap += (low - far_high) ** 2
    return gap


def fulfils(item, condition, time):
    """[29]"""
    word, box = condition
    for (low, high), (far_low, far_high) in zip(place(item, time), box):
        if word == "meets" and (high < far_low or far_high < low):
            return False
        if word == "inside" and not (far_low <= low and high <= far_high):
            return False
        if word == "covers" and not (low <= far_low and far_high <= high):
            return False
    return True


def beats(one, other, time):
    """[31]"""
    lows = [(mine[0], its[0]) for mine, its in zip(place(one, time), place(other, time))]
    return all(mine <= its for mine, its in lows) and any(mine < its for mine, its in lows)


def is_met_at(item, box, rates, moment):
    """[25]"""
    moving = place((None, box, rates), moment)
    return all(
        low <= far_high and far_low <= high
        for (low, high), (far_low, far_high) in zip(place(item, moment), moving)
    )


def met_moments(item, box, rates, start, end):
    """The moments, in order, at which the item begins or ends to meet the box, or the span does."""
    moments = {Fraction(start), Fraction(end)}
    for (low, high), speed, (far_low, far_high), rate in zip(item[1], item[2], box, rates):
        if speed != rate:
            moments.add(Fraction(far_low - high, speed - rate))
            moments.add(Fraction(far_high - low, speed - rate))
    inner = sorted(moment for moment in moments if start <= moment <= end)
    return [moment for moment in inner if is_met_at(item, box, rates, moment)]


def answer(items, question):
    """[30] to [32]"""
    kind, *parts = question
    if kind in ("select", "count"):
        conditions, time = parts
        keys = [item[0] for item in items if all(fulfils(item, each, time) for each in conditions)]
        return tuple(sorted(keys)) if kind == "select" else len(keys)
    if kind == "nearest":
        many, box, time = parts
        pairs = [(distance(item, box, time), item[0]) for item in items]
        if len(pairs) > many:
            pairs = [pair for pair in pairs if pair[0] <= sorted(each for each, _ in pairs)[many - 1]]
        return tuple(sorted(pairs))
    if kind == "skyline":
        time, = parts
        return tuple(sorted(
            item[0] for item in items if not any(beats(other, item, time) for other in items)
        ))
    if kind == "during":
        box, start, end = parts
        still = [0] * len(box)
        return tuple(sorted(item[0] for item in items if met_moments(item, box, still, start, end)))
    box, rates, start, end = parts
    firsts = [(met_moments(item, box, rates, start, end)[:1], item[0]) for item in items]
    firsts = [(moments[0], key) for moments, key in firsts if moments]
    if not firsts:
        return None
    first = min(firsts)[0]
    return ((first.numerator, first.denominator), tuple(sorted(key for moment, key in firsts if moment == first)))


@functools.lru_cache(maxsize=None)
def possible_pairs(bound, time):
    """The pairs on one axis of the places at the time that are possible within narrow bounds."""
    low, high, slow, fast = bound
    return tuple({
        (one + rate * time, other + rate * time)
        for rate in range(slow, fast + 1) for one in range(low, high + 1) for other in range(one, high + 1)
    })


def pair_fulfils(pair, word, other):
    """[29], on one axis."""
    if word == "meets":
        return pair[0] <= other[1] and other[0] <= pair[1]
    if word == "inside":
        return other[0] <= pair[0] and pair[1] <= other[1]
    return pair[0] <= other[0] and other[1] <= pair[1]


def shut_axes(bounds, conditions, time):
    """The axes on which no possible pair fulfils the conditions. [47]"""
    return [
        axis for axis, bound in enumerate(bounds)
        if not any(
            all(pair_fulfils(pair, word, box[axis]) for word, box in conditions)
            for pair in possible_pairs(bound, time)
        )
    ]


def may_fail(bounds, conditions, time):
    """Whether some possible item does not fulfil the conditions. [44]"""
    return any(
        not pair_fulfils(pair, word, box[axis])
        for axis, bound in enumerate(bounds) for pair in possible_pairs(bound, time) for word, box in conditions
    )


def least_distance(bounds, box, time):
    """[43]"""
    return sum(
        min(max(0, one - high, low - other) for low, high in possible_pairs(bound, time)) ** 2
        for bound, (one, other) in zip(bounds, box)
    )


def corner_is_beaten(bounds, item, time):
    """[44]"""
    corner = [low + slow * time for low, _, slow, _ in bounds]
    lows = [low for low, _ in place(item, time)]
    return all(low <= end for low, end in zip(lows, corner)) and lows != corner


def window(bounds, box, rates, start, end, axes=None):
    """The first and the last moment at which all conditions of [44] hold on these axes, or None."""
    axes = range(len(box)) if axes is None else axes
    moments = {Fraction(start), Fraction(end)}

    def holds(moment):
        return all(
            bounds[axis][0] + (bounds[axis][2] - rates[axis]) * moment <= box[axis][1]
            and bounds[axis][1] + (bounds[axis][3] - rates[axis]) * moment >= box[axis][0]
            for axis in axes
        )

    for axis in axes:
        low, high, slow, fast = bounds[axis]
        if slow != rates[axis]:
            moments.add(Fraction(box[axis][1] - low, slow - rates[axis]))
        if fast != rates[axis]:
            moments.add(Fraction(box[axis][0] - high, fast - rates[axis]))
    held = [moment for moment in moments if start <= moment <= end and holds(moment)]
    return (min(held), max(held)) if held else None


def is_needed(items, known, question):
    """Whether a leaf page of which this is known is needed, where the tree has the items. [44]"""
    count, bounds = known
    kind, *parts = question
    if kind == "select":
        return not shut_axes(bounds, *parts)
    if kind == "count":
        return not shut_axes(bounds, *parts) and (count is None or may_fail(bounds, *parts))
    if kind == "nearest":
        many, box, time = parts
        gaps = sorted(distance(item, box, time) for item in items)
        return len(items) < many or least_distance(bounds, box, time) <= gaps[many - 1]
    if kind == "skyline":
        return not any(corner_is_beaten(bounds, item, parts[0]) for item in items)
    if kind == "during":
        box, start, end = parts
        return window(bounds, box, [0] * len(box), start, end) is not None
    span = window(bounds, *parts)
    told = answer(items, question)
    return span is not None and (told is None or span[0] <= Fraction(*told[0]))


def true_reasons(known, question, read_items):
    """All reasons of [47] that are true of a page of which this is known, in the order of [48]."""
    count, bounds = known
    kind, *parts = question
    axes = range(len(bounds))
    if kind in ("select", "count"):
        reasons = [("shut", axis) for axis in shut_axes(bounds, *parts)]
        if kind == "count" and count is not None and not may_fail(bounds, *parts):
            reasons.append(("full",))
        return reasons
    if kind == "nearest":
        many, box, time = parts
        gaps = sorted(distance(item, box, time) for item in read_items)
        return [("far",)] if len(gaps) >= many and least_distance(bounds, box, time) > gaps[many - 1] else []
    if kind == "skyline":
        keys = sorted(item[0] for item in read_items if corner_is_beaten(bounds, item, parts[0]))
        return [("beaten", key) for key in keys]
    if kind == "during":
        box, start, end = parts
        still = [0] * len(box)
        alone = [axis for axis in axes if window(bounds, box, still, start, end, (axis,)) is None]
        pairs = [
            (one, other) for one in axes for other in axes
            if one < other and one not in alone and other not in alone
            and window(bounds, box, still, start, end, (one, other)) is None
        ]
        return [("apart", axis) for axis in alone] + [("apart", *pair) for pair in pairs]
    span, told = window(bounds, *parts), answer(read_items, question)
    return [("late",)] if span is None or told is not None and span[0] > Fraction(*told[0]) else []


def needed_items(rows, known, question):
    """The items on the needed leaf pages of these rows."""
    items = [item for _, level, entries in rows if level == 0 for item in entries]
    return [
        item for number, level, entries in rows if level == 0 and is_needed(items, known[number], question)
        for item in entries
    ]


def cut_lines(rows, known, choose):
    """The lines of a cut, where choose tells the reason for a page, or None; as lists of words."""
    pages = {number: (level, entries) for number, level, entries in rows}

    def below(number):
        reason = choose(known[number])
        if reason is not None:
            return [[reason[0], number, *reason[1:]]]
        level, entries = pages[number]
        if level == 0:
            return [["read", number]]
        return [["open", number]] + [line for kid in entries for line in below(kid)]

    return below(rows[0][0])


def text_of(lines):
    """The text of lines that are lists of words."""
    return "".join(" ".join(str(word) for word in line) + "\n" for line in lines)


def cut(rows, known, question):
    """[48]"""
    read = needed_items(rows, known, question)
    told = answer(read, question) if question[0] == "skyline" else ()

    def choose(page):
        reasons = true_reasons(page, question, read)
        return next((reason for reason in reasons if reason[0] != "beaten" or reason[1] in told), None)

    return text_of(cut_lines(rows, known, choose))


NUMBER = "(0|[1-9][0-9]{0,9})"
FORMS = {
    "select": ("shut N N",),
    "count": ("shut N N", "full N"),
    "nearest": ("far N",),
    "skyline": ("beaten N N",),
    "during": ("apart N N", "apart N N N"),
    "first": ("late N",),
}


def parsed(line, kind, axes):
    """The word and the numbers of a line that has a form for the kind, or None. [47]"""
    for form in ("open N", "read N", *FORMS[kind]):
        found = re.fullmatch(form.replace("N", NUMBER), line)
        if found:
            word, numbers = form.split()[0], [int(part) for part in found.groups()]
            if word in ("shut", "apart") and max(numbers[1:]) >= axes:
                return None
            if numbers[1:] != sorted(set(numbers[1:])):
                return None
            return (word, *numbers)
    return None


def equal(told, value):
    """Whether both are the same as values of [19]."""
    if type(told) is not type(value):
        return False
    if type(value) is tuple:
        return len(told) == len(value) and all(equal(one, other) for one, other in zip(told, value))
    return told == value


def check(rows, known, axes, question, told, text):
    """True or False, or the number that BadCut keeps, in a list. [49]"""
    if not isinstance(text, str):
        return [0]
    pages = {number: (level, entries) for number, level, entries in rows}
    due, lines = [rows[0][0]], []
    for at, line in enumerate(text.splitlines(keepends=True)):
        words = parsed(line[:-1], question[0], axes) if line.endswith("\n") else None
        if words is None or not due or words[1] != due[0]:
            return [at]
        number = due.pop(0)
        level, entries = pages[number]
        if words[0] == ("open" if level == 0 else "read"):
            return [at]
        due = [*entries, *due] if words[0] == "open" else due
        lines.append(words)
    if due:
        return [len(lines)]
    read = [item for words in lines if words[0] == "read" for item in pages[words[1]][1]]
    for at, (word, number, *rest) in enumerate(lines):
        if word not in ("open", "read") and (word, *rest) not in true_reasons(known[number], question, read):
            return [at]
    value = answer(read, question)
    if question[0] == "count":
        value += sum(known[words[1]][0] for words in lines if words[0] == "full")
    return equal(told, value)
