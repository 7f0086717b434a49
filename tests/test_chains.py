"""[l4] chains, [l5] the told chain."""

import itertools
import random
import time
import unittest

from corpuskeep.chains import told_chain
from corpuskeep.classes import alike_pairs, kept_ids
from tests.test_classes import DOCUMENTS, random_documents


def plain_chain(documents, length, over, under, number):
    """The definition: the first in order of the shortest ones of all chains without a repeated id."""
    near = {(a, b) for a, b, _, _ in alike_pairs(documents, length, over, under)}
    near |= {(b, a) for a, b in near}
    kept = kept_ids(documents, length, over, under)[number]
    if kept == number:
        return [number]
    between = [other for other, _ in documents if other not in (number, kept)]
    for size in range(len(documents)):
        chains = [
            [number, *inner, kept] for inner in itertools.permutations(between, size)
            if all(step in near for step in zip((number, *inner), (*inner, kept)))
        ]
        if chains:
            return min(chains)
    return None


def graph(edges):
    """Return documents of which just these pairs are alike for the share 1 of 1000, with one-word shingles."""
    ids = sorted({number for edge in edges for number in edge})
    return [
        (number, [[f"own{number}"]] + [[f"{a} {b}"] for a, b in sorted(edges) if number in (a, b)])
        for number in ids
    ]


class ChainTest(unittest.TestCase):
    def test_the_example(self):
        self.assertEqual(told_chain(DOCUMENTS, 2, 1, 2, 5), [5, 2, 1])
        self.assertEqual(told_chain(DOCUMENTS, 2, 1, 2, 2), [2, 1])

    def test_a_document_that_is_kept_for_itself(self):
        self.assertEqual(told_chain(DOCUMENTS, 2, 1, 2, 1), [1])
        self.assertEqual(told_chain(DOCUMENTS, 2, 1, 2, 3), [3])
        self.assertEqual(told_chain([(0, [["a"]])], 1, 1, 1, 0), [0])

    def test_a_shortest_chain(self):
        documents = graph([(1, 2), (2, 3), (3, 4), (4, 9), (1, 8), (8, 9)])
        self.assertEqual(told_chain(documents, 1, 1, 1000, 9), [9, 8, 1])

    def test_the_first_of_the_shortest_chains(self):
        documents = graph([(1, 3), (1, 4), (3, 9), (4, 9)])
        self.assertEqual(told_chain(documents, 1, 1, 1000, 9), [9, 3, 1])
        # The first id that differs decides, not what follows behind it.
        documents = graph([(0, 5), (5, 2), (2, 9), (0, 3), (3, 4), (4, 9)])
        self.assertEqual(told_chain(documents, 1, 1, 1000, 9), [9, 2, 5, 0])

    def test_the_least_next_id_may_lead_astray(self):
        documents = graph([(0, 7), (7, 9), (2, 9), (2, 3), (3, 0)])
        self.assertEqual(told_chain(documents, 1, 1, 1000, 9), [9, 7, 0])

    def test_ids_are_ordered_as_numbers(self):
        documents = graph([(1, 9), (9, 20), (1, 10), (10, 20)])
        self.assertEqual(told_chain(documents, 1, 1, 1000, 20), [20, 9, 1])

    def test_the_kept_document_of_the_own_class(self):
        documents = graph([(0, 1), (2, 3), (3, 4)])
        self.assertEqual(told_chain(documents, 1, 1, 1000, 4), [4, 3, 2])

    def test_random_documents_against_the_definition(self):
        source = random.Random(6)
        longest = 0
        for _ in range(250):
            documents = random_documents(source, source.randrange(1, 8))
            length = source.randrange(1, 4)
            over = source.randrange(1, 5)
            under = over + source.randrange(6)
            for number, _ in documents:
                chain = told_chain(documents, length, over, under, number)
                self.assertEqual(chain, plain_chain(documents, length, over, under, number))
                longest = max(longest, len(chain))
        self.assertGreaterEqual(longest, 3)

    def test_random_graphs_against_the_definition(self):
        source = random.Random(7)
        edges = list(itertools.combinations(range(7), 2))
        for _ in range(150):
            documents = graph(source.sample(edges, source.randrange(1, 12)))
            for number, _ in documents:
                chain = told_chain(documents, 1, 1, 1000, number)
                self.assertEqual(chain, plain_chain(documents, 1, 1, 1000, number))


class SpeedTest(unittest.TestCase):
    def test_at_the_bounds(self):
        words = [str(at) for at in range(1600 * 13)]
        # Each document shares half of its words with the one before and half with the one behind.
        documents = [(number, [words[number * 800:number * 800 + 1600]]) for number in range(24)]
        begin = time.perf_counter()
        self.assertEqual(told_chain(documents, 1, 1, 3, 23), list(range(23, -1, -1)))
        self.assertEqual(told_chain(documents, 20, 1, 4, 23), list(range(23, -1, -1)))
        equal = [(number, [words[:1600]]) for number in range(24)]
        self.assertEqual(told_chain(equal, 20, 1, 1, 23), [23, 0])
        self.assertLess(time.perf_counter() - begin, 5)


if __name__ == "__main__":
    unittest.main()
