"""Best matchings and least covers, against all that there are."""

import itertools
import random
import unittest

from boundstead.matchings import best_matching, least_cover


def least_size(edges):
    """The least number of pages that hold one of each pair, by trying all sets."""
    pages = [(0, page) for page in edges] + [(1, mate) for mate in {mate for row in edges.values() for mate in row}]
    pairs = [((0, page), (1, mate)) for page, row in edges.items() for mate in row]
    for size in range(len(pages) + 1):
        for held in itertools.combinations(pages, size):
            if all(one in held or other in held for one, other in pairs):
                return size


class MatchingsTest(unittest.TestCase):
    def test_random_edges(self):
        rng = random.Random(64)
        sizes = set()
        for _ in range(400):
            many, others = rng.randint(0, 6), rng.randint(0, 6)
            share = rng.random()
            edges = {page: [mate for mate in range(others) if rng.random() < share] for page in range(many)}
            mates = best_matching(edges)
            self.assertTrue(all(mate in edges[page] for mate, page in mates.items()))
            self.assertEqual(len(set(mates.values())), len(mates))
            ones, held = least_cover(edges, mates)
            self.assertEqual((ones, held), (sorted(set(ones)), sorted(set(held))))
            self.assertTrue(all(page in ones or mate in held for page, row in edges.items() for mate in row))
            self.assertEqual(len(ones) + len(held), len(mates))
            self.assertEqual(len(mates), least_size(edges))
            sizes.add(len(mates))
        self.assertTrue(sizes >= {0, 1, 2, 3, 4, 5}, sizes)

    def test_a_long_chain(self):
        # Each page can only be matched when all before it move on.
        many = 66
        edges = {page: [page, page + 1] for page in range(many)}
        edges[many] = [0]
        mates = best_matching(edges)
        self.assertEqual(len(mates), many + 1)
        self.assertEqual(sum(map(len, least_cover(edges, mates))), many + 1)


if __name__ == "__main__":
    unittest.main()
