"""[t1] codes, [t2] making a join, [t3] the codes of a word."""

import itertools
import time
import unittest

from corpuskeep.joining import END, FILL, FIRST_JOIN, make_join, word_codes

LOWER = [(110, 113), (200, 121), (201, 34)]


def char_codes(text):
    return [2 + ord(char) for char in text]


def plain_make(codes, pair, code):
    """The definition: replace the first place of the pair, and go on behind it."""
    for at in range(len(codes) - 1):
        if (codes[at], codes[at + 1]) == pair:
            return codes[:at] + [code] + plain_make(codes[at + 2:], pair, code)
    return codes


class MakeJoinTest(unittest.TestCase):
    def test_an_even_and_an_odd_number_of_equal_codes(self):
        self.assertEqual(make_join([99] * 2, (99, 99), 200), [200])
        self.assertEqual(make_join([99] * 3, (99, 99), 200), [200, 99])
        self.assertEqual(make_join([99] * 4, (99, 99), 200), [200, 200])
        self.assertEqual(make_join([99] * 5, (99, 99), 200), [200, 200, 99])
        self.assertEqual(make_join([5, 99, 99, 99, 5, 99, 99], (99, 99), 200), [5, 200, 99, 5, 200])

    def test_at_the_beginning_and_at_the_end(self):
        self.assertEqual(make_join([40, 41, 42], (40, 41), 200), [200, 42])
        self.assertEqual(make_join([42, 40, 41], (40, 41), 200), [42, 200])
        self.assertEqual(make_join([40, 41, 42, 40, 41], (40, 41), 200), [200, 42, 200])
        self.assertEqual(make_join([40, 41], (40, 41), 200), [200])

    def test_a_list_without_the_pair(self):
        self.assertEqual(make_join([40, 42, 41], (40, 41), 200), [40, 42, 41])
        self.assertEqual(make_join([41, 40], (40, 41), 200), [41, 40])
        self.assertEqual(make_join([40], (40, 41), 200), [40])
        self.assertEqual(make_join([40], (40, 40), 200), [40])
        self.assertEqual(make_join([], (40, 41), 200), [])

    def test_the_new_code_does_not_take_part(self):
        self.assertEqual(make_join([200, 41, 41, 41], (200, 41), 200), [200, 41, 41])
        self.assertEqual(make_join([40, 40, 40], (40, 40), 40), [40, 40])

    def test_what_is_returned_is_another_list(self):
        codes = [40, 42]
        self.assertIsNot(make_join(codes, (40, 41), 200), codes)

    def test_small_lists_against_the_definition(self):
        for size in range(7):
            for codes in itertools.product((40, 41, 42), repeat=size):
                for pair in ((40, 41), (40, 40), (42, 40)):
                    self.assertEqual(make_join(list(codes), pair, 200), plain_make(list(codes), pair, 200))


class WordCodesTest(unittest.TestCase):
    def test_the_constants(self):
        self.assertEqual((FILL, END, FIRST_JOIN), (0, 1, 200))

    def test_without_joins(self):
        self.assertEqual(word_codes([], "ab~!"), [99, 100, 128, 35, 34])
        self.assertEqual(word_codes([], "a"), [99, 34])

    def test_the_example(self):
        self.assertEqual(word_codes(LOWER, "slow"), [117, 202])

    def test_joins_of_joins(self):
        self.assertEqual(word_codes(LOWER, "low"), [202])
        self.assertEqual(word_codes(LOWER, "lower"), [201, 103, 116, 34])
        self.assertEqual(word_codes(LOWER, "lo"), [200, 34])
        self.assertEqual(word_codes([(99, 99), (200, 200)], "aaaaaa"), [201, 200, 34])

    def test_a_join_with_the_space(self):
        self.assertEqual(word_codes([(99, 34)], "aa"), [99, 200])
        self.assertEqual(word_codes([(99, 34), (100, 200)], "ba"), [201])

    def test_the_space_stands_behind_the_word_only(self):
        self.assertEqual(word_codes([(34, 99)], "aa"), [99, 99, 34])

    def test_a_join_whose_parts_never_meet(self):
        # The first join takes every b behind an a, so the second one finds no b.
        self.assertEqual(word_codes([(99, 100), (100, 101)], "abc"), [200, 101, 34])
        self.assertEqual(word_codes([(99, 100), (101, 200), (200, 101)], "abab"), [200, 200, 34])

    def test_the_joins_are_made_in_their_order(self):
        self.assertEqual(word_codes([(99, 100), (100, 101)], "abc"), [200, 101, 34])
        self.assertEqual(word_codes([(100, 101), (99, 100)], "abc"), [99, 200, 34])

    def test_each_join_is_made_in_the_whole_word_before_the_next_one(self):
        self.assertEqual(word_codes([(99, 100), (200, 200)], "ababab"), [201, 200, 34])


class SpeedTest(unittest.TestCase):
    def test_at_the_bounds(self):
        joins = [(99, 99)] + [(200 + at, 200 + at) for at in range(29)]
        begin = time.perf_counter()
        # 3200 is 2048 + 1024 + 128.
        self.assertEqual(word_codes(joins, "a" * 3200), [210, 209, 206, 34])
        for _ in range(100):
            word_codes(joins, "a" * 40)
        self.assertEqual(make_join([99] * 2000, (99, 99), 200), [200] * 1000)
        self.assertLess(time.perf_counter() - begin, 3)


if __name__ == "__main__":
    unittest.main()
