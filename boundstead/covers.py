"""Checking bounds: proofs that no join lot with fewer pages settles a join."""

from boundstead.errors import BadBound
from boundstead.kinds import is_integer, is_sequence
from boundstead.meetings import check_join, has_partner, known_leaves, may_meet


def is_leaf(leaves, value):
    """Whether value is the number of one of the leaf pages."""
    return is_integer(value) and value in leaves


def is_bound_form(value):
    """Whether value is a pair of sequences."""
    return is_sequence(value) and len(value) == 2 and is_sequence(value[0]) and is_sequence(value[1])


def forced_pages(sides, time, member):
    """The page (side, number) that a member of forced names; an empty list if it is not true."""
    if not is_sequence(member) or len(member) != 3:
        return []
    side, page, mate = member
    if not is_integer(side) or side not in (0, 1):
        return []
    leaves, mates = sides[side], sides[1 - side]
    if not is_leaf(leaves, page) or not is_leaf(mates, mate):
        return []
    bounds, _ = leaves[page]
    _, stands = mates[mate]
    return [(side, page)] if has_partner(stands, bounds, time) else []


def matched_pages(sides, time, member):
    """The two pages (side, number) that a member of matching names; an empty list if it is not true."""
    if not is_sequence(member) or len(member) != 2:
        return []
    page, mate = member
    if not is_leaf(sides[0], page) or not is_leaf(sides[1], mate):
        return []
    bounds, _ = sides[0][page]
    far_bounds, _ = sides[1][mate]
    return [(0, page), (1, mate)] if may_meet(bounds, far_bounds, time) else []


def join_bound_holds(one, other, time, bound):
    """True if bound is a bound of the join; BadBound if it is none."""
    check_join(one, other, time)
    if not is_bound_form(bound):
        raise BadBound(0)
    sides = (known_leaves(one), known_leaves(other))
    forced, matching = bound
    seen = {}
    for at, member in enumerate([*forced, *matching]):
        is_forced = at < len(forced)
        pages = forced_pages(sides, time, member) if is_forced else matched_pages(sides, time, member)
        if not pages or any([page in seen for page in pages]):
            raise BadBound(at)
        seen.update({page: True for page in pages})
    return True
