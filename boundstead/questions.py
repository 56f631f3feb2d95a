"""Questions, and the answers that the plain list of the items gives."""

from boundstead.boxes import gap_between, inside, meets
from boundstead.items import is_box_of, is_speed_of
from boundstead.kinds import is_sequence, is_span, is_time, is_within
from boundstead.moments import compare_moments, meeting_span, place_at

MOST_CONDITIONS = 4
MOST_NEAREST = 100
WORDS = ("meets", "inside", "covers")


def is_condition(axes, value):
    """Whether value is a pair of a condition's word and a box."""
    if not is_sequence(value) or len(value) != 2:
        return False
    word, box = value
    return word in WORDS and is_box_of(axes, box)


def is_conditional(axes, parts):
    """Whether parts are those of a select or a count question."""
    if len(parts) != 2:
        return False
    conditions, time = parts
    if not is_sequence(conditions) or len(conditions) > MOST_CONDITIONS:
        return False
    return all([is_condition(axes, each) for each in conditions]) and is_time(time)


def is_nearest(axes, parts):
    """Whether parts are those of a nearest question."""
    if len(parts) != 3:
        return False
    many, box, time = parts
    return is_within(many, 1, MOST_NEAREST) and is_box_of(axes, box) and is_time(time)


def is_skyline(_, parts):
    """Whether parts are those of a skyline question, which is one for any number of axes."""
    return len(parts) == 1 and is_time(parts[0])


def is_during(axes, parts):
    """Whether parts are those of a during question."""
    if len(parts) != 3:
        return False
    box, start, end = parts
    return is_box_of(axes, box) and is_span(start, end)


def is_first(axes, parts):
    """Whether parts are those of a first question."""
    if len(parts) != 4:
        return False
    box, speed, start, end = parts
    return is_box_of(axes, box) and is_speed_of(axes, speed) and is_span(start, end)


CHECKS = {
    "select": is_conditional,
    "count": is_conditional,
    "nearest": is_nearest,
    "skyline": is_skyline,
    "during": is_during,
    "first": is_first,
}


def is_question(axes, value):
    """Whether value is a question for so many axes."""
    if not is_sequence(value) or len(value) == 0:
        return False
    kind = value[0]
    if not isinstance(kind, str) or kind not in CHECKS:
        return False
    check = CHECKS[kind]
    return check(axes, value[1:])


def is_met(place, word, box):
    """Whether the place fulfils the condition of the word and the box."""
    if word == "meets":
        return meets(place, box)
    if word == "inside":
        return inside(place, box)
    return inside(box, place)


def fulfils(item, conditions, time):
    """Whether the item fulfils all conditions at the time."""
    place = place_at(item[1], item[2], time)
    return all([is_met(place, word, box) for word, box in conditions])


def selected(items, question):
    """The keys, ascending, of the items that fulfil the conditions."""
    _, conditions, time = question
    return tuple(sorted([item[0] for item in items if fulfils(item, conditions, time)]))


def counted(items, question):
    """The number of the items that fulfil the conditions."""
    return len(selected(items, question))


def distances(items, box, time):
    """The pairs (distance from the box, key) of the items at the time, ascending."""
    return sorted([(gap_between(place_at(each, speed, time), box), key) for key, each, speed in items])


def nearest(items, question):
    """The pairs (distance, key), ascending, of the nearest items."""
    _, many, box, time = question
    pairs = distances(items, box, time)
    if len(pairs) <= many:
        return tuple(pairs)
    limit = pairs[many - 1][0]
    return tuple([pair for pair in pairs if pair[0] <= limit])


def lows_at(item, time):
    """The low of the item's place at the time on each axis."""
    return tuple([low for low, _ in place_at(item[1], item[2], time)])


def is_below(lows, others):
    """Whether lows are at most the others on each axis, and less on at least one."""
    return lows != others and all([low <= other for low, other in zip(lows, others)])


def unbeaten(items, question):
    """The keys, ascending, of the items that no item beats."""
    _, time = question
    # Whoever is beaten is beaten by an unbeaten item, and that one has lesser lows,
    # so it comes first here.
    kept = []
    for lows, key in sorted([(lows_at(item, time), item[0]) for item in items]):
        if not any([is_below(others, lows) for others, _ in kept]):
            kept.append((lows, key))
    return tuple(sorted([key for _, key in kept]))


def met_during(items, question):
    """The keys, ascending, of the items that meet the resting box in the span."""
    _, box, start, end = question
    rest = [0 for _ in box]
    keys = []
    for key, own, speed in items:
        if meeting_span(own, speed, box, rest, start, end) is not None:
            keys.append(key)
    return tuple(sorted(keys))


def first_met(items, question):
    """The first moment at which items meet the moving box, and their keys, or None."""
    _, box, rates, start, end = question
    best = None
    keys = []
    for key, own, speed in items:
        span = meeting_span(own, speed, box, rates, start, end)
        if span is None:
            continue
        order = -1 if best is None else compare_moments(span[0], best)
        if order < 0:
            best = span[0]
            keys = []
        if order <= 0:
            keys.append(key)
    if best is None:
        return None
    return (best, tuple(sorted(keys)))


ANSWERS = {
    "select": selected,
    "count": counted,
    "nearest": nearest,
    "skyline": unbeaten,
    "during": met_during,
    "first": first_met,
}


def plain_answer(items, question):
    """The answer to the question for these items."""
    find = ANSWERS[question[0]]
    return find(items, question)
