"""[l2] shingles, [l3] when two documents are alike."""

import itertools
import unittest

from corpuskeep.shingles import compare, shingles


def plain_shingles(pieces, length):
    """The definition: all runs of the pieces, and whole pieces that are too short."""
    found = []
    for piece in pieces:
        runs = [tuple(piece[at:at + length]) for at in range(len(piece)) if at + length <= len(piece)]
        if len(piece) < length:
            runs = [tuple(piece)]
        for run in runs:
            if run not in found:
                found.append(run)
    return found


def small_pieces():
    """Return many short lists of pieces."""
    pieces = [list(words) for size in (1, 2, 3) for words in itertools.product("ab", repeat=size)]
    return [[]] + [[piece] for piece in pieces] + [list(pair) for pair in itertools.product(pieces, repeat=2)]


class ShinglesTest(unittest.TestCase):
    def test_one_piece(self):
        self.assertEqual(shingles([["a", "b", "c", "d"]], 2), [("a", "b"), ("b", "c"), ("c", "d")])
        self.assertEqual(shingles([["a", "b"]], 1), [("a",), ("b",)])

    def test_a_piece_shorter_than_the_length(self):
        self.assertEqual(shingles([["a", "b"]], 3), [("a", "b")])
        self.assertEqual(shingles([["a"]], 20), [("a",)])

    def test_a_piece_of_just_the_length(self):
        self.assertEqual(shingles([["a", "b", "c"]], 3), [("a", "b", "c")])
        self.assertEqual(shingles([["a", "b", "c", "d"]], 3), [("a", "b", "c"), ("b", "c", "d")])

    def test_a_shingle_that_occurs_twice(self):
        self.assertEqual(shingles([["a", "b", "a", "b"]], 2), [("a", "b"), ("b", "a")])
        self.assertEqual(shingles([["a"] * 5], 2), [("a", "a")])

    def test_a_shingle_in_two_pieces(self):
        self.assertEqual(shingles([["c", "a", "b"], ["a", "b", "d"]], 2), [("c", "a"), ("a", "b"), ("b", "d")])
        self.assertEqual(shingles([["a", "b"], ["a", "b"]], 5), [("a", "b")])

    def test_no_shingle_goes_from_one_piece_to_another(self):
        self.assertEqual(shingles([["a", "b"], ["c", "d"]], 2), [("a", "b"), ("c", "d")])
        self.assertEqual(shingles([["a"], ["b"]], 2), [("a",), ("b",)])

    def test_a_short_piece_beside_runs_of_the_length(self):
        self.assertEqual(shingles([["a"], ["a", "b", "c"], ["b"]], 2), [("a",), ("a", "b"), ("b", "c"), ("b",)])

    def test_the_order_of_first_occurrence(self):
        pieces = [["z", "y"], ["b", "a", "z", "y", "b"], ["a"]]
        self.assertEqual(shingles(pieces, 2), [("z", "y"), ("b", "a"), ("a", "z"), ("y", "b"), ("a",)])

    def test_no_pieces(self):
        self.assertEqual(shingles([], 1), [])
        self.assertEqual(shingles([], 20), [])

    def test_words_are_not_joined(self):
        self.assertEqual(shingles([["ab", "c"], ["a", "bc"]], 2), [("ab", "c"), ("a", "bc")])

    def test_small_cases_against_the_definition(self):
        for pieces in small_pieces():
            for length in (1, 2, 3, 4):
                self.assertEqual(shingles(pieces, length), plain_shingles(pieces, length), (pieces, length))


class CompareTest(unittest.TestCase):
    FIRST = [["a", "b", "c", "d"]]
    SECOND = [["a", "b", "c", "e"]]

    def test_the_numbers(self):
        self.assertEqual(compare(self.FIRST, self.SECOND, 2, 1, 2), (True, 2, 4))
        self.assertEqual(compare(self.FIRST, [["x"]], 2, 1, 2), (False, 0, 4))

    def test_the_share_just_met_and_just_missed(self):
        self.assertEqual(compare(self.FIRST, self.SECOND, 2, 50, 100), (True, 2, 4))
        self.assertEqual(compare(self.FIRST, self.SECOND, 2, 51, 100), (False, 2, 4))
        self.assertEqual(compare(self.FIRST, self.SECOND, 2, 49, 100), (True, 2, 4))
        self.assertEqual(compare(self.FIRST, self.SECOND, 2, 500, 999), (False, 2, 4))
        self.assertEqual(compare(self.FIRST, self.SECOND, 2, 1000, 1000), (False, 2, 4))

    def test_a_whole_share_asks_for_equal_shingles(self):
        self.assertEqual(compare(self.FIRST, [["c", "d"], ["b", "c"], ["a", "b", "c"]], 2, 1, 1), (True, 3, 3))
        self.assertEqual(compare(self.FIRST, self.FIRST + [["z"]], 2, 1, 1), (False, 3, 4))

    def test_empty_lists_of_pieces(self):
        self.assertEqual(compare([], [], 2, 1, 1), (True, 0, 0))
        self.assertEqual(compare([], [], 1, 1, 1000), (True, 0, 0))
        self.assertEqual(compare([], self.FIRST, 2, 1, 1000), (False, 0, 3))
        self.assertEqual(compare(self.FIRST, [], 2, 1, 1000), (False, 0, 3))

    def test_a_list_with_itself(self):
        for pieces in (self.FIRST, [["a"]], [["a"], ["a"]], [["a", "b"], ["c"]]):
            found = len(shingles(pieces, 2))
            self.assertEqual(compare(pieces, pieces, 2, 1, 1), (True, found, found))

    def test_a_shingle_counts_once_however_often_it_occurs(self):
        self.assertEqual(compare([["a"] * 9], [["a", "a", "b"]], 2, 1, 2), (True, 1, 2))
        self.assertEqual(compare([["a"], ["a"], ["b"]], [["a"], ["c"], ["c"]], 1, 1, 2), (False, 1, 3))

    def test_the_truth_value(self):
        self.assertIs(compare(self.FIRST, self.SECOND, 2, 1, 2)[0], True)
        self.assertIs(compare(self.FIRST, self.SECOND, 2, 1, 1)[0], False)
        self.assertIs(type(compare(self.FIRST, self.SECOND, 2, 1, 2)), tuple)

    def test_small_cases_both_ways_round(self):
        lists = small_pieces()[::4]
        for first, second in itertools.product(lists, repeat=2):
            for length, over, under in ((1, 1, 2), (2, 1, 3), (3, 2, 3)):
                ones = set(plain_shingles(first, length))
                others = set(plain_shingles(second, length))
                wanted = (over * len(ones | others) <= under * len(ones & others), len(ones & others), len(ones | others))
                self.assertEqual(compare(first, second, length, over, under), wanted)
                self.assertEqual(compare(second, first, length, over, under), wanted)


if __name__ == "__main__":
    unittest.main()
