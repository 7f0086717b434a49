"""[h4] the fewest places."""

import itertools
import time
import unittest

from corpuskeep.fewest import fewest_places
from tests.test_standing import TEXTS, WORDS, plain_standings, small_cases


def plain_fewest(length, texts, words):
    """The definition, word for word."""
    taken = []
    standings = plain_standings(length, texts, words)
    for at in range(len(words)):
        for place, _, _ in standings:
            run = range(place, place + length)
            if run[-1] == at and not any(other in run for other in taken):
                taken.append(at)
                break
    return taken


def meets_all(places, runs):
    return all(any(at in run for at in places) for run in runs)


class FewestTest(unittest.TestCase):
    def test_the_example(self):
        self.assertEqual(fewest_places(2, TEXTS, WORDS), [2, 6])

    def test_overlapping_standings_share_a_place(self):
        self.assertEqual(fewest_places(3, [["a"] * 3], ["a"] * 5), [2])
        self.assertEqual(fewest_places(3, [["a"] * 3], ["a"] * 6), [2, 5])
        self.assertEqual(fewest_places(2, [["a", "b", "c"]], ["a", "b", "c"]), [1])

    def test_standings_side_by_side(self):
        self.assertEqual(fewest_places(2, [["a", "b"]], ["a", "b", "a", "b"]), [1, 3])
        self.assertEqual(fewest_places(1, [["a"]], ["a", "a", "b", "a"]), [0, 1, 3])

    def test_several_texts_at_one_place(self):
        self.assertEqual(fewest_places(2, [["a", "b"], ["a", "b", "a", "b"]], ["x", "a", "b"]), [2])

    def test_a_standing_of_the_whole_text(self):
        self.assertEqual(fewest_places(3, [["a", "b", "c"]], ["a", "b", "c"]), [2])

    def test_no_standing(self):
        self.assertEqual(fewest_places(4, TEXTS, WORDS), [])
        self.assertEqual(fewest_places(2, [], WORDS), [])
        self.assertEqual(fewest_places(2, [[]], WORDS), [])
        self.assertEqual(fewest_places(2, TEXTS, []), [])
        self.assertEqual(fewest_places(9, [["a"]], ["a"]), [])

    def test_small_cases_against_the_definition(self):
        for length, texts, words in small_cases():
            self.assertEqual(fewest_places(length, texts, words), plain_fewest(length, texts, words))

    def test_each_standing_is_met_and_no_smaller_number_of_places_does_it(self):
        for length, texts, words in small_cases():
            runs = [range(place, place + length) for place, _, _ in plain_standings(length, texts, words)]
            found = fewest_places(length, texts, words)
            self.assertTrue(meets_all(found, runs))
            if found:
                for fewer in itertools.combinations(range(len(words)), len(found) - 1):
                    self.assertFalse(meets_all(fewer, runs), (length, texts, words))


class SpeedTest(unittest.TestCase):
    def test_at_the_bounds(self):
        begin = time.perf_counter()
        self.assertEqual(fewest_places(20, [["a"] * 800] * 6, ["a"] * 1600), list(range(19, 1600, 20)))
        texts = [["a"] * 799 + ["b"] for _ in range(6)]
        words = (["a"] * 19 + ["b"]) * 80
        for length in (1, 2, 3, 19, 20, 400, 800, 801):
            fewest_places(length, texts, words)
        self.assertLess(time.perf_counter() - begin, 3)


if __name__ == "__main__":
    unittest.main()
