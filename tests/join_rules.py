"""What [54] to [57] ask of joins, followed word by word, to test against."""

import itertools
import random

import naive
from groves import convoys, grown
from makers import items_of
from model import known_of
from twin_rules import flaws_of_twin, leaves_of, subsets, twin_items

from boundstead.trees import Tree

TIMES = (0, 0, 1, 2, 3, 7, 20)


def pairs_of(items, others, time):
    """The join of two sequences of items, by comparison of all pairs."""
    return tuple(sorted(
        (one[0], other[0]) for one in items for other in others
        if all(low <= far_high and far_low <= high
               for (low, high), (far_low, far_high) in zip(naive.place(one, time), naive.place(other, time)))
    ))


def can_meet(bounds, others, time):
    """Whether some item possible within the one bounds meets some within the others, at integer speeds."""
    return all(
        any(far_low - high <= rate * time <= far_high - low for rate in range(slow - far_fast, fast - far_slow + 1))
        for (low, high, slow, fast), (far_low, far_high, far_slow, far_fast) in zip(bounds, others)
    )


def has_partner(items, bounds, time):
    """Whether one of the items meets some item possible within the bounds."""
    return any(can_meet(naive.bounds_of([item]), bounds, time) for item in items)


class Sides:
    """Two trees at a time, and what is true of each pair of their leaf pages."""

    def __init__(self, one, other, time):
        self.trees = (one, other)
        self.time = time
        self.leaves = tuple(leaves_of(tree) for tree in self.trees)
        self.known = tuple({number: known_of(tree)[number][1] for number in leaves_of(tree)} for tree in self.trees)
        self.facts = {
            (page, mate): (
                can_meet(self.known[0][page], self.known[1][mate], time),
                has_partner(self.leaves[0][page], self.known[1][mate], time),
                has_partner(self.leaves[1][mate], self.known[0][page], time),
            )
            for page in self.leaves[0] for mate in self.leaves[1]
        }

    def settles(self, lot):
        """[55]"""
        return all(
            not possible or page in lot[0] and not first or mate in lot[1] and not second
            or page in lot[0] and mate in lot[1]
            for (page, mate), (possible, first, second) in self.facts.items()
        )

    def lots(self):
        """All join lots."""
        return list(itertools.product(subsets(self.leaves[0]), subsets(self.leaves[1])))

    def is_true(self, is_forced, member):
        """Whether a member of a bound is true. [57]"""
        if not is_forced:
            return self.facts[member][0]
        side, page, mate = member
        return self.facts[(page, mate)][2] if side == 0 else self.facts[(mate, page)][1]

    def wrong_member(self, bound):
        """The position of the first member of a bound, with members of the form, that is wrong, or None. [57]"""
        seen = set()
        for at, member in enumerate([*bound[0], *bound[1]]):
            is_forced = at < len(bound[0])
            pages = {member[:2]} if is_forced else {(0, member[0]), (1, member[1])}
            if not self.is_true(is_forced, member) or pages & seen:
                return at
            seen |= pages
        return None

    def members(self):
        """All members that are of the form: of forced, and of matching."""
        sides = self.leaves
        forced = [(0, page, mate) for page in sides[0] for mate in sides[1]]
        forced += [(1, page, mate) for page in sides[1] for mate in sides[0]]
        return forced, list(self.facts)

    def flaws_of_twins(self, lot, twins):
        """What is wrong with a join twin for the lot that should have another join. [54]"""
        flaws = [flaws_of_twin(*each) for each in zip(self.trees, lot, twins)]
        items = [twin_items(tree, twin) for tree, twin in zip(self.trees, twins)]
        if pairs_of(*items, self.time) == pairs_of(*[tree.all_items() for tree in self.trees], self.time):
            flaws.append("the same join")
        return [flaw for flaw in flaws if flaw]


def small_tree(rng, axes, pages=(2, 3)):
    """A tree with few leaf pages, one of which may be its root."""
    kind = rng.choice(("convoys", "convoys", "convoys", "packed", "grown", "lone", "empty"))
    if kind == "convoys":
        return convoys(rng, axes, rng.choice(pages))
    if kind == "packed":
        return Tree.packed(axes, items_of(rng, axes, rng.randint(7, 18), room=15, width=2, most=2), most=6)
    if kind == "grown":
        return grown(rng, axes, rng.randint(8, 16), room=15, width=1)
    return Tree.packed(axes, items_of(rng, axes, 0 if kind == "empty" else rng.randint(1, 6), room=15), most=6)


def crossed_trees(rng, most, blots):
    """Two trees whose pages are lines across one another, with no item where they cross but for some blots."""
    trees = []
    for axis in (0, 1):
        rows, kids = [], tuple(range(rng.randint(2, most)))
        for number in kids:
            low, high = sorted(rng.sample(range(0, 20, 2), 2))
            level = 2 * rng.randint(0, 9) + 1
            ends = [(low, level), (high, level), (low, level)]
            if number < blots:
                ends.append((2 * rng.randint(0, 9) + 1, level))
            items = [(10 * number + at, tuple((end, end) for end in (pair if axis else pair[::-1])), (0, 0))
                     for at, pair in enumerate(ends)]
            rows.append((number, 0, items))
        trees.append(Tree.from_pages(2, ((999, 1, kids), *rows), most=6))
    return trees


def small_pairs(seed, many):
    """Pairs of small trees with a time; some of a tree with itself, some of crossed ones."""
    rng = random.Random(seed)
    for _ in range(many):
        axes = rng.randint(1, 3)
        if rng.random() < 0.3:
            yield rng, Sides(*crossed_trees(rng, 3, rng.choice((0, 0, 1, 2))), rng.choice(TIMES))
            continue
        one = small_tree(rng, axes)
        other = one if rng.random() < 0.2 else small_tree(rng, axes)
        yield rng, Sides(one, other, rng.choice(TIMES))
