"""Joins of two trees: pairs of items that meet, lots that settle them, and the smallest such lots."""

from boundstead.boxes import meets
from boundstead.errors import BadValue
from boundstead.kinds import is_sequence
from boundstead.lots import is_lot
from boundstead.matchings import best_matching, least_cover
from boundstead.meetings import check_join, has_partner, known_leaves, may_meet, meeting_speeds
from boundstead.moments import place_at
from boundstead.twins import twin_row, widest_box


def places_of(tree, time):
    """The pairs (key, place at the time) of all items, by ascending key."""
    return [(key, place_at(box, speed, time)) for key, box, speed in tree.all_items()]


def join_pairs(one, other, time):
    """The pairs (key of one, key of other), ascending, of the items whose places meet at the time."""
    check_join(one, other, time)
    rows = places_of(other, time)
    pairs = []
    for key, place in places_of(one, time):
        pairs.extend([(key, far_key) for far_key, far_place in rows if meets(place, far_place)])
    return tuple(pairs)


def check_join_lot(one, other, time, lot):
    """BadValue unless the trees can be joined at the time and lot is a pair of lots of them."""
    check_join(one, other, time)
    if not is_sequence(lot) or len(lot) != 2 or not is_lot(one, lot[0]) or not is_lot(other, lot[1]):
        raise BadValue(3)


def stands_of(tree, numbers):
    """For each leaf page bounds within which its items stand: of each one if the page is read, of all else."""
    leaves = known_leaves(tree)
    return {number: leaves[number][1] if number in numbers else [leaves[number][0]] for number in leaves}


def meeting_stands(stands, far_stands, time):
    """Bounds of the one list and of the other within which some items meet, or None."""
    for stand in stands:
        for far_stand in far_stands:
            if may_meet(stand, far_stand, time):
                return (stand, far_stand)
    return None


def doubt_of(one, other, time, lot):
    """A pair of pages not both of which are in the lot, and bounds within which some items meet, or None."""
    ones, others = lot
    leaves = stands_of(one, ones)
    mates = stands_of(other, others)
    for page, stands in leaves.items():
        for mate, far_stands in mates.items():
            found = None if page in ones and mate in others else meeting_stands(stands, far_stands, time)
            if found is not None:
                return (page, mate, found)
    return None


def join_settles(one, other, time, lot):
    """Whether the join is the same for all join twins for the lot."""
    check_join_lot(one, other, time, lot)
    return doubt_of(one, other, time, lot) is None


def join_twin(one, other, time, lot):
    """A join twin for the lot that has another join, or None if the lot settles the join."""
    check_join_lot(one, other, time, lot)
    doubt = doubt_of(one, other, time, lot)
    if doubt is None:
        return None
    page, mate, (stand, far_stand) = doubt
    # Two items that meet, at least one of which has a key that its tree does not have.
    speed, far_speed = meeting_speeds(stand, far_stand, time)
    row = twin_row(one, page, (widest_box(stand), speed))
    far_row = twin_row(other, mate, (widest_box(far_stand), far_speed))
    return (() if page in lot[0] else (row,), () if mate in lot[1] else (far_row,))


def forced_triples(side, leaves, mates, time):
    """The triples (side, page, mate) of the pages that are in each lot that settles the join."""
    triples = []
    for page, (bounds, _) in leaves.items():
        found = [mate for mate, (_, stands) in mates.items() if has_partner(stands, bounds, time)]
        if found:
            triples.append((side, page, found[0]))
    return triples


def free_edges(leaves, mates, time, forced):
    """For each page of one that is not forced the pages of other, not forced either, that it may meet."""
    taken = {(side, page): True for side, page, _ in forced}
    rows = [(mate, bounds) for mate, (bounds, _) in mates.items() if (1, mate) not in taken]
    edges = {}
    for page, (bounds, _) in leaves.items():
        if (0, page) not in taken:
            edges[page] = [mate for mate, far_bounds in rows if may_meet(bounds, far_bounds, time)]
    return edges


def forced_and_edges(one, other, time):
    """The forced triples of both sides, and the edges that are left: of each at least one page is read."""
    leaves = known_leaves(one)
    mates = known_leaves(other)
    forced = forced_triples(0, leaves, mates, time) + forced_triples(1, mates, leaves, time)
    return (forced, free_edges(leaves, mates, time, forced))


def join_fewest(one, other, time):
    """A join lot that settles the join with the fewest pages in all."""
    check_join(one, other, time)
    forced, edges = forced_and_edges(one, other, time)
    ones, others = least_cover(edges, best_matching(edges))
    ones = ones + [page for side, page, _ in forced if side == 0]
    others = others + [page for side, page, _ in forced if side == 1]
    return (tuple(sorted(ones)), tuple(sorted(others)))


def join_bound(one, other, time):
    """A bound with as many members as the smallest lots that settle the join have pages."""
    check_join(one, other, time)
    forced, edges = forced_and_edges(one, other, time)
    matching = sorted([(page, mate) for mate, page in best_matching(edges).items()])
    return (tuple(forced), tuple(matching))
