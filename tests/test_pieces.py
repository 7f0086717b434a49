"""[h3] pieces and covered places."""

import time
import unittest

from corpuskeep.pieces import covered_places, uncovered_pieces
from tests.test_standing import TEXTS, WORDS, plain_standings, small_cases


def plain_covered(length, texts, words):
    """The definition: the places of the words of all standings."""
    standings = plain_standings(length, texts, words)
    return sorted({place + at for place, _, _ in standings for at in range(length)})


class CoveredTest(unittest.TestCase):
    def test_the_example(self):
        self.assertEqual(covered_places(2, TEXTS, WORDS), [1, 2, 3, 5, 6, 7])

    def test_standings_that_touch_and_overlap(self):
        self.assertEqual(covered_places(2, [["a", "b"]], ["a", "b", "a", "b"]), [0, 1, 2, 3])
        self.assertEqual(covered_places(3, [["a", "a", "a"]], ["a"] * 5 + ["b"]), [0, 1, 2, 3, 4])

    def test_nothing_covered(self):
        self.assertEqual(covered_places(2, [], WORDS), [])
        self.assertEqual(covered_places(2, TEXTS, []), [])
        self.assertEqual(covered_places(4, TEXTS, WORDS), [])

    def test_small_cases_against_the_definition(self):
        for length, texts, words in small_cases():
            self.assertEqual(covered_places(length, texts, words), plain_covered(length, texts, words))


class PiecesTest(unittest.TestCase):
    def test_the_example(self):
        self.assertEqual(uncovered_pieces(2, TEXTS, WORDS), [(0, ["x"]), (4, ["y"])])

    def test_at_the_beginning_in_the_middle_and_at_the_end(self):
        words = ["p", "q", "a", "r", "a", "a", "s", "t"]
        self.assertEqual(uncovered_pieces(1, [["a"]], words), [(0, ["p", "q"]), (3, ["r"]), (6, ["s", "t"])])

    def test_covered_at_both_ends(self):
        self.assertEqual(uncovered_pieces(1, [["a"]], ["a", "b", "c", "a"]), [(1, ["b", "c"])])

    def test_no_piece_between_standings_that_touch(self):
        self.assertEqual(uncovered_pieces(2, [["a", "b"]], ["a", "b", "a", "b", "c"]), [(4, ["c"])])

    def test_a_text_that_is_covered_whole(self):
        self.assertEqual(uncovered_pieces(1, [["a"]], ["a", "a"]), [])
        self.assertEqual(uncovered_pieces(2, [["a", "a"]], ["a", "a", "a"]), [])

    def test_a_text_without_phrases(self):
        self.assertEqual(uncovered_pieces(2, TEXTS, ["c", "b", "a"]), [(0, ["c", "b", "a"])])
        self.assertEqual(uncovered_pieces(2, [], ["a"]), [(0, ["a"])])

    def test_the_empty_text(self):
        self.assertEqual(uncovered_pieces(2, TEXTS, []), [])
        self.assertEqual(uncovered_pieces(1, [], []), [])

    def test_small_cases_against_the_definition(self):
        for length, texts, words in small_cases():
            covered = plain_covered(length, texts, words)
            pieces = uncovered_pieces(length, texts, words)
            self.assertEqual([at for place, run in pieces for at in range(place, place + len(run))], [
                at for at in range(len(words)) if at not in covered
            ])
            for place, run in pieces:
                self.assertEqual(words[place:place + len(run)], run)
                self.assertGreater(len(run), 0)
                # The runs are maximal: what stands beside a piece is covered.
                self.assertTrue(place == 0 or place - 1 in covered)
                self.assertTrue(place + len(run) == len(words) or place + len(run) in covered)


class SpeedTest(unittest.TestCase):
    def test_at_the_bounds(self):
        words = (["a"] * 19 + ["b"]) * 80
        texts = [["a"] * 799 + ["b"] for _ in range(6)]
        begin = time.perf_counter()
        self.assertEqual(uncovered_pieces(20, texts, words), [])
        self.assertEqual(uncovered_pieces(21, texts, words), [(0, words)])
        for length in (1, 2, 100, 400, 800, 801):
            uncovered_pieces(length, texts, words)
            covered_places(length, texts, ["a"] * 1600)
        self.assertLess(time.perf_counter() - begin, 5)


if __name__ == "__main__":
    unittest.main()
