"""[t4] the gain, [t5] the best pair, [t6] learning joins."""

import itertools
import random
import time
import unittest

from corpuskeep.joining import word_codes
from corpuskeep.learning import best_pair, join_gains, learn_joins, pair_gain
from tests.test_joining import LOWER, plain_make

SPACE = 34


def plain_gain(lists, pair):
    """The definition: by how much making the join shortens the lists."""
    return sum(len(codes) - len(plain_make(codes, pair, 999)) for codes in lists)


def plain_best(joins, words):
    """The definition: compare all pairs of adjacent codes."""
    lists = [word_codes(joins, word) for word in words]
    pairs = {pair for codes in lists for pair in zip(codes, codes[1:])}
    ranks = sorted((-plain_gain(lists, pair), pair) for pair in pairs)
    return (ranks[0][1], -ranks[0][0]) if ranks else None


def plain_learn(count, words):
    joins = []
    while len(joins) < count:
        best = plain_best(joins, words)
        if best is None or best[1] < 2:
            break
        joins.append(best[0])
    return joins


def random_words(source):
    letters = "ab" if source.randrange(2) else "abcd"
    return ["".join(source.choice(letters) for _ in range(source.randrange(1, 8))) for _ in range(source.randrange(9))]


class GainTest(unittest.TestCase):
    def test_equal_codes_in_a_row(self):
        self.assertEqual(pair_gain([[99] * 3], (99, 99)), 1)
        self.assertEqual(pair_gain([[99] * 4], (99, 99)), 2)
        self.assertEqual(pair_gain([[99] * 3, [99] * 3], (99, 99)), 2)

    def test_all_lists_count_together(self):
        lists = [[99, 100, 34], [100, 99, 100], [34], [], [99, 100, 99, 100]]
        self.assertEqual(pair_gain(lists, (99, 100)), 4)
        self.assertEqual(pair_gain(lists, (100, 99)), 2)
        self.assertEqual(pair_gain(lists, (100, 100)), 0)

    def test_pairs_do_not_reach_over_lists(self):
        self.assertEqual(pair_gain([[99], [100]], (99, 100)), 0)

    def test_nothing(self):
        self.assertEqual(pair_gain([], (99, 100)), 0)
        self.assertEqual(pair_gain([[]], (99, 99)), 0)

    def test_codes_of_joins(self):
        self.assertEqual(pair_gain([[200, 200, 200, 201, 34]], (200, 200)), 1)
        self.assertEqual(pair_gain([[200, 201, 200, 201]], (200, 201)), 2)

    def test_small_lists_against_the_definition(self):
        for size in range(7):
            for codes in itertools.product((99, 200), repeat=size):
                for pair in ((99, 99), (99, 200), (200, 200), (200, 99)):
                    lists = [list(codes), list(codes[1:])]
                    self.assertEqual(pair_gain(lists, pair), plain_gain(lists, pair))


class BestPairTest(unittest.TestCase):
    def test_the_example(self):
        self.assertEqual(best_pair([], ["aaa"]), ((99, 34), 1))

    def test_a_word_that_occurs_several_times(self):
        self.assertEqual(best_pair([], ["xy", "ab", "ab", "ab"]), ((99, 100), 3))
        self.assertEqual(best_pair([], ["xy", "xy", "ab"]), ((122, 123), 2))

    def test_equal_gains_the_lesser_first_code(self):
        self.assertEqual(best_pair([], ["b"]), ((100, SPACE), 1))
        self.assertEqual(best_pair([], ["cb", "ad"]), ((99, 102), 1))

    def test_equal_gains_and_first_codes_the_lesser_second_code(self):
        self.assertEqual(best_pair([], ["!c", "!b"]), ((35, 100), 1))
        self.assertEqual(best_pair([], ["!b", "!c", "!d"]), ((35, 100), 1))
        self.assertEqual(best_pair([], ["!c", "!b", "!b", "!c", "d!"]), ((35, 100), 2))
        self.assertEqual(best_pair([(35, 35)], ["z!!"]), ((124, 200), 1))

    def test_codes_are_compared_as_numbers(self):
        # The character b has the code 100, the tilde 128, the join 200.
        self.assertEqual(best_pair([(99, 99)], ["aab", "~b"]), ((100, SPACE), 2))
        self.assertEqual(best_pair([(99, 99), (100, SPACE)], ["aab", "~b"]), ((128, 201), 1))
        self.assertEqual(best_pair([], ["Zz", "zZ"]), ((92, SPACE), 1))

    def test_overlapping_pairs_of_equal_codes(self):
        self.assertEqual(best_pair([], ["aaaa", "bc", "bc"]), ((99, 99), 2))
        self.assertEqual(best_pair([], ["aaa", "bc", "bc"]), ((100, 101), 2))
        self.assertEqual(best_pair([], ["aaaba", "x"]), ((99, 34), 1))
        self.assertEqual(best_pair([], ["aabaa"]), ((99, 99), 2))

    def test_one_code_only(self):
        self.assertIsNone(best_pair(LOWER, ["low", "low"]))
        self.assertIsNone(best_pair([(99, 34)], ["a"]))
        self.assertEqual(best_pair(LOWER, ["low", "slow"]), ((117, 202), 1))

    def test_no_words(self):
        self.assertIsNone(best_pair([], []))
        self.assertIsNone(best_pair(LOWER, []))

    def test_random_words_against_the_definition(self):
        source = random.Random(8)
        for _ in range(400):
            words = random_words(source)
            joins = plain_learn(source.randrange(4), random_words(source))
            self.assertEqual(best_pair(joins, words), plain_best(joins, words))


class LearnTest(unittest.TestCase):
    def test_the_example(self):
        self.assertEqual(learn_joins(10, ["low", "low", "lower"]), LOWER)

    def test_the_count_is_kept(self):
        self.assertEqual(learn_joins(0, ["low", "low", "lower"]), [])
        self.assertEqual(learn_joins(1, ["low", "low", "lower"]), LOWER[:1])
        self.assertEqual(learn_joins(2, ["low", "low", "lower"]), LOWER[:2])
        self.assertEqual(learn_joins(3, ["low", "low", "lower"]), LOWER)

    def test_it_stops_when_no_pair_gains_two(self):
        self.assertEqual(learn_joins(5, ["abc"]), [])
        self.assertEqual(learn_joins(5, ["aaa"]), [])
        self.assertEqual(learn_joins(5, ["aaaa"]), [(99, 99)])
        self.assertEqual(learn_joins(5, ["ab", "cb"]), [(100, SPACE)])

    def test_it_stops_when_nothing_is_left_to_join(self):
        self.assertEqual(learn_joins(5, ["a", "a"]), [(99, SPACE)])
        self.assertEqual(learn_joins(5, []), [])

    def test_the_order_of_the_words_plays_no_part(self):
        source = random.Random(9)
        for _ in range(50):
            words = random_words(source) + random_words(source)
            wanted = learn_joins(8, words)
            source.shuffle(words)
            self.assertEqual(learn_joins(8, words), wanted)
            self.assertEqual(learn_joins(8, sorted(words)), wanted)

    def test_the_first_joins_of_a_greater_count(self):
        source = random.Random(10)
        for _ in range(50):
            words = random_words(source) + random_words(source)
            joins = learn_joins(30, words)
            for count in range(31):
                self.assertEqual(learn_joins(count, words), joins[:count])

    def test_random_words_against_the_definition(self):
        source = random.Random(11)
        most = 0
        for _ in range(150):
            words = random_words(source) + random_words(source)
            joins = learn_joins(7, words)
            self.assertEqual(joins, plain_learn(7, words))
            most = max(most, len(joins))
        self.assertEqual(most, 7)


class JoinGainsTest(unittest.TestCase):
    def test_the_example(self):
        self.assertEqual(join_gains(LOWER, ["low", "low", "lower"]), [3, 3, 2])

    def test_each_gain_is_by_the_joins_before(self):
        self.assertEqual(join_gains([(99, 99), (99, 99), (200, 200)], ["aaaaa", "aaa"]), [3, 0, 1])
        self.assertEqual(join_gains([(99, 100), (100, 101)], ["abc"]), [1, 0])

    def test_nothing(self):
        self.assertEqual(join_gains([], ["a"]), [])
        self.assertEqual(join_gains(LOWER, []), [0, 0, 0])

    def test_random_words_against_the_definition(self):
        source = random.Random(12)
        for _ in range(100):
            words = random_words(source) + random_words(source)
            joins = learn_joins(6, words)
            wanted = [
                plain_gain([word_codes(joins[:at], word) for word in words], pair) for at, pair in enumerate(joins)
            ]
            self.assertEqual(join_gains(joins, words), wanted)
            others = learn_joins(6, random_words(source))
            wanted = [
                plain_gain([word_codes(others[:at], word) for word in words], pair) for at, pair in enumerate(others)
            ]
            self.assertEqual(join_gains(others, words), wanted)


class SpeedTest(unittest.TestCase):
    def test_many_different_words(self):
        source = random.Random(13)
        words = ["".join(source.choice("abcdefghijklmnopqrst") for _ in range(8)) for _ in range(9600)]
        begin = time.perf_counter()
        joins = learn_joins(30, words)
        self.assertEqual(len(joins), 30)
        gains = join_gains(joins, words)
        self.assertEqual(gains, sorted(gains, reverse=True))
        best_pair(joins, words)
        self.assertLess(time.perf_counter() - begin, 8)

    def test_long_words_and_repeated_ones(self):
        begin = time.perf_counter()
        self.assertEqual(join_gains(learn_joins(30, ["a" * 3200] * 24), ["a" * 3200] * 24)[:2], [38400, 19200])
        self.assertEqual(learn_joins(30, ["a", "b"] * 19200), [(99, SPACE), (100, SPACE)])
        self.assertLess(time.perf_counter() - begin, 3)


if __name__ == "__main__":
    unittest.main()
