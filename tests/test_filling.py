"""[w4] filling pages, and dealing them out."""

import random
import time
import unittest

from corpuskeep.filling import deal, fill
from corpuskeep.order import phases


class FillTest(unittest.TestCase):
    def test_an_empty_stream(self):
        self.assertEqual(fill([], 1), [])
        self.assertEqual(fill([], 64), [])

    def test_a_stream_that_fills_its_last_page(self):
        self.assertEqual(fill([5, 6, 7, 1], 2), [[5, 6], [7, 1]])
        self.assertEqual(fill([5, 6, 7, 1], 4), [[5, 6, 7, 1]])

    def test_one_code_more(self):
        self.assertEqual(fill([5, 6, 7, 8, 1], 4), [[5, 6, 7, 8], [1, 0, 0, 0]])

    def test_one_code_less(self):
        self.assertEqual(fill([5, 6, 1], 4), [[5, 6, 1, 0]])

    def test_pages_of_one_code(self):
        self.assertEqual(fill([5, 6, 1], 1), [[5], [6], [1]])

    def test_sizes(self):
        for many in range(70):
            for size in range(1, 65):
                pages = fill(list(range(2, 2 + many)), size)
                self.assertEqual({len(page) for page in pages}, {size} if many else set())
                self.assertEqual(len(pages), -(-many // size))
                codes = [code for page in pages for code in page]
                self.assertEqual(codes, list(range(2, 2 + many)) + [0] * (len(codes) - many))

    def test_the_stream_is_not_a_page(self):
        stream = [5, 1]
        self.assertIsNot(fill(stream, 2)[0], stream)


class DealTest(unittest.TestCase):
    def test_the_order_of_the_pages(self):
        streams = [[10, 11, 12, 13, 14, 15, 16, 1], [20, 21, 1]]
        self.assertEqual(deal([2, 1], streams, 2), [
            (0, [10, 11]), (0, [12, 13]), (1, [20, 21]), (0, [14, 15]), (0, [16, 1]), (1, [1, 0]),
        ])

    def test_empty_streams(self):
        self.assertEqual(deal([2, 1], [[], []], 3), [])
        self.assertEqual(deal([9, 1], [[], [5, 1]], 3), [(1, [5, 1, 0])])

    def test_each_source_gives_its_pages_in_order(self):
        source = random.Random(18)
        for _ in range(100):
            many = source.randrange(1, 5)
            weights = [source.randrange(1, 101) for _ in range(many)]
            streams = [[source.randrange(1, 210) for _ in range(source.randrange(60))] for _ in range(many)]
            size = source.randrange(1, 9)
            pages = deal(weights, streams, size)
            for at, stream in enumerate(streams):
                self.assertEqual([codes for own, codes in pages if own == at], fill(stream, size))
            counts = [len(fill(stream, size)) for stream in streams]
            order = [own for phase in phases(weights, counts) for own in phase]
            self.assertEqual([own for own, _ in pages], order)


class SpeedTest(unittest.TestCase):
    def test_at_the_bounds(self):
        begin = time.perf_counter()
        streams = [[99] * 29000 for _ in range(4)]
        self.assertEqual(len(deal([1, 100, 3, 4], streams, 1)), 116000)
        self.assertEqual(len(deal([1, 100, 3, 4], streams, 64)), 4 * 454)
        self.assertLess(time.perf_counter() - begin, 5)


if __name__ == "__main__":
    unittest.main()
