"""[h1] phrases, [h2] standings and their order."""

import itertools
import time
import unittest

from corpuskeep.standing import phrase_cover, phrase_standings, standing_places

TEXTS = [["a", "b", "c"], ["b", "z"]]
WORDS = ["x", "a", "b", "c", "y", "a", "b", "z"]


def plain_standings(length, texts, words):
    """The definition: ask for each place and each phrase."""
    return [
        (place, text, phrase)
        for place in range(len(words) - length + 1)
        for text in range(len(texts))
        for phrase in range(len(texts[text]) - length + 1)
        if texts[text][phrase:phrase + length] == words[place:place + length]
    ]


def plain_cover(length, texts, words, place):
    for standing in plain_standings(length, texts, words):
        if standing[0] <= place < standing[0] + length:
            return standing
    return None


def small_cases():
    """Return lengths, lists of exam texts and texts of few words, in many combinations."""
    exams = [list(words) for size in range(4) for words in itertools.product("ab", repeat=size)]
    texts = [list(words) for size in range(5) for words in itertools.product("ab", repeat=size)] + [list("abcabab")]
    pairs = [[]] + [[exam] for exam in exams] + [[exams[at], exams[-at - 2]] for at in range(len(exams) - 1)]
    return itertools.product((1, 2, 3), pairs, texts)


class StandingsTest(unittest.TestCase):
    def test_the_example(self):
        self.assertEqual(phrase_standings(2, TEXTS, WORDS), [(1, 0, 0), (2, 0, 1), (5, 0, 0), (6, 1, 0)])

    def test_nothing_to_find(self):
        self.assertEqual(phrase_standings(2, [], WORDS), [])
        self.assertEqual(phrase_standings(2, [[]], WORDS), [])
        self.assertEqual(phrase_standings(2, TEXTS, []), [])
        self.assertEqual(phrase_standings(1, [], []), [])

    def test_texts_shorter_than_the_length(self):
        self.assertEqual(phrase_standings(3, TEXTS, WORDS), [(1, 0, 0)])
        self.assertEqual(phrase_standings(4, TEXTS, WORDS), [])
        self.assertEqual(phrase_standings(9, [WORDS + ["q"]], WORDS), [])
        self.assertEqual(phrase_standings(8, [WORDS], WORDS), [(0, 0, 0)])

    def test_equal_phrases_in_several_texts_and_twice_in_one(self):
        texts = [["a", "b", "a", "b"], ["c"], ["a", "b"]]
        self.assertEqual(phrase_standings(2, texts, ["a", "b", "c", "a", "b"]), [
            (0, 0, 0), (0, 0, 2), (0, 2, 0), (3, 0, 0), (3, 0, 2), (3, 2, 0),
        ])

    def test_standings_overlap(self):
        self.assertEqual(phrase_standings(2, [["a", "a"]], ["a", "a", "a"]), [(0, 0, 0), (1, 0, 0)])

    def test_words_are_equal_as_strings(self):
        self.assertEqual(phrase_standings(2, [["ab", "c"]], ["a", "bc", "AB", "c"]), [])
        self.assertEqual(phrase_standings(1, [["a"]], ["aa", "A", " a", "a"]), [(3, 0, 0)])

    def test_small_cases_against_the_definition(self):
        for length, texts, words in small_cases():
            found = plain_standings(length, texts, words)
            self.assertEqual(phrase_standings(length, texts, words), found)
            self.assertEqual(found, sorted(found))


class CoverTest(unittest.TestCase):
    def test_the_example(self):
        self.assertEqual(phrase_cover(2, TEXTS, WORDS, 3), (2, 0, 1))

    def test_each_place(self):
        covers = [phrase_cover(2, TEXTS, WORDS, place) for place in range(10)]
        self.assertEqual(covers, [
            None, (1, 0, 0), (1, 0, 0), (2, 0, 1), None, (5, 0, 0), (5, 0, 0), (6, 1, 0), None, None,
        ])

    def test_behind_the_last_word(self):
        self.assertIsNone(phrase_cover(2, [["a", "b"]], ["a", "b"], 2))
        self.assertIsNone(phrase_cover(2, [["a", "b"]], ["a", "b"], 3))
        self.assertIsNone(phrase_cover(5, [["a"] * 5], ["a"] * 6, 1000000))
        self.assertIsNone(phrase_cover(1, [["a"]], [], 0))

    def test_the_first_text_and_phrase(self):
        texts = [["c"], ["x", "a", "b", "a", "b"], ["a", "b"]]
        self.assertEqual(phrase_cover(2, texts, ["a", "b"], 1), (0, 1, 1))

    def test_nothing_to_find(self):
        self.assertIsNone(phrase_cover(2, [], ["a"], 0))
        self.assertIsNone(phrase_cover(2, [["a"]], ["a", "a"], 0))

    def test_small_cases_against_the_definition(self):
        for length, texts, words in small_cases():
            for place in range(len(words) + 2):
                found = plain_cover(length, texts, words, place)
                self.assertEqual(phrase_cover(length, texts, words, place), found, (length, texts, words, place))


class PlacesTest(unittest.TestCase):
    def test_the_example(self):
        self.assertEqual(standing_places(2, TEXTS, WORDS), [1, 2, 5, 6])

    def test_each_place_once(self):
        self.assertEqual(standing_places(1, [["a", "a"], ["a"]], ["a", "b", "a"]), [0, 2])

    def test_nothing_to_find(self):
        self.assertEqual(standing_places(1, [], ["a"]), [])
        self.assertEqual(standing_places(1, [["a"]], []), [])
        self.assertEqual(standing_places(3, [["a"]], ["a"]), [])

    def test_small_cases_against_the_definition(self):
        for length, texts, words in small_cases():
            found = sorted({place for place, _, _ in plain_standings(length, texts, words)})
            self.assertEqual(standing_places(length, texts, words), found)


class SpeedTest(unittest.TestCase):
    def test_at_the_bounds(self):
        words = (["a"] * 19 + ["b"]) * 80
        texts = [["a"] * 799 + ["b"] for _ in range(6)]
        begin = time.perf_counter()
        self.assertEqual(standing_places(20, texts, words), [20 * at for at in range(80)])
        self.assertEqual(len(phrase_standings(20, texts, words)), 480)
        self.assertEqual(phrase_cover(20, texts, words, 1599), (1580, 0, 780))
        for length in (1, 2, 100, 400, 800, 801, 2000):
            standing_places(length, texts, words)
            phrase_cover(length, texts, words, 800)
        self.assertLess(time.perf_counter() - begin, 5)

    def test_many_standings(self):
        begin = time.perf_counter()
        found = phrase_standings(3, [["a"] * 100 for _ in range(6)], ["a"] * 1600)
        self.assertEqual(len(found), 1598 * 6 * 98)
        self.assertEqual(found[-1], (1597, 5, 97))
        self.assertLess(time.perf_counter() - begin, 10)


if __name__ == "__main__":
    unittest.main()
