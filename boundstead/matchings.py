"""Pairs of pages of two sides: as many without a common page as can be, and as few pages as hold all pairs."""


def find_mate(edges, mates, page, seen):
    """Give a page of the one side a mate, perhaps by moving others to other mates; whether there was one."""
    for mate in edges[page]:
        if mate in seen:
            continue
        seen[mate] = True
        if mate not in mates or find_mate(edges, mates, mates[mate], seen):
            mates[mate] = page
            return True
    return False


def best_matching(edges):
    """For pages of the other side their mates of the one side, as many as can be."""
    mates = {}
    for page in edges:
        find_mate(edges, mates, page, {})
    return mates


def least_cover(edges, mates):
    """As few pages as hold one of each pair, as two ascending lists; mates are a best matching."""
    # By the theorem of Koenig: what is reached from the pages without a mate, along any pairs
    # to the other side and along those of the matching back, is to be held by the other side.
    matched = {page: True for page in mates.values()}
    due = [page for page in edges if page not in matched]
    reached = {page: True for page in due}
    held = {}
    while due:
        page = due.pop()
        for mate in edges[page]:
            held[mate] = True
            if mates[mate] not in reached:
                reached[mates[mate]] = True
                due.append(mates[mate])
    return (sorted([page for page in matched if page not in reached]), sorted(held))
