"""[h5] the longest common run."""

import itertools
import time
import unittest

from corpuskeep.common import longest_common_run
from tests.test_standing import TEXTS, WORDS


def plain_runs(texts, words):
    """Return all common runs, each as a tuple (negative length, place, text, start)."""
    return [
        (-length, place, text, start)
        for place in range(len(words))
        for text, exam in enumerate(texts)
        for start in range(len(exam))
        for length in range(1, 1 + min(len(words) - place, len(exam) - start))
        if words[place:place + length] == exam[start:start + length]
    ]


def plain_longest(texts, words):
    """The definition: the longest of all common runs, then the least place, text and start."""
    runs = plain_runs(texts, words)
    if not runs:
        return None
    length, place, text, start = min(runs)
    return (-length, place, text, start)


class CommonTest(unittest.TestCase):
    def test_the_example(self):
        self.assertEqual(longest_common_run(TEXTS, WORDS), (3, 1, 0, 0))

    def test_no_common_word(self):
        self.assertIsNone(longest_common_run([["a", "b"], []], ["c", "ab"]))
        self.assertIsNone(longest_common_run([["a"]], ["A"]))

    def test_empty_texts(self):
        self.assertIsNone(longest_common_run([], ["a"]))
        self.assertIsNone(longest_common_run([[], []], ["a"]))
        self.assertIsNone(longest_common_run([["a"]], []))
        self.assertIsNone(longest_common_run([], []))

    def test_a_single_word(self):
        self.assertEqual(longest_common_run([["x", "a"]], ["b", "c", "a"]), (1, 2, 0, 1))

    def test_the_least_place_comes_first(self):
        # The run at the lesser place is in a later text and at a later start.
        texts = [["c", "d"], ["x", "x", "a", "b"]]
        self.assertEqual(longest_common_run(texts, ["q", "a", "b", "q", "c", "d"]), (2, 1, 1, 2))

    def test_then_the_least_text(self):
        texts = [["x"], ["y", "y", "a", "b"], ["a", "b"]]
        self.assertEqual(longest_common_run(texts, ["q", "a", "b"]), (2, 1, 1, 2))

    def test_then_the_least_start(self):
        self.assertEqual(longest_common_run([["q", "a", "b", "x", "a", "b"]], ["a", "b", "a", "b"]), (2, 0, 0, 1))
        self.assertEqual(longest_common_run([["a"] * 9], ["a"] * 4), (4, 0, 0, 0))

    def test_a_longer_run_at_a_greater_place(self):
        self.assertEqual(longest_common_run([["a", "b", "c"]], ["a", "b", "a", "b", "c"]), (3, 2, 0, 0))

    def test_to_the_end_of_the_text_and_of_the_exam_text(self):
        self.assertEqual(longest_common_run([["x", "a", "b", "c"]], ["y", "a", "b"]), (2, 1, 0, 1))
        self.assertEqual(longest_common_run([["x", "a", "b"]], ["y", "a", "b", "c"]), (2, 1, 0, 1))
        self.assertEqual(longest_common_run([["a", "b", "c"]], ["a", "b", "c"]), (3, 0, 0, 0))
        self.assertEqual(longest_common_run([["b"], ["q", "a", "b"]], ["a", "b"]), (2, 0, 1, 1))

    def test_each_length_is_found(self):
        for length in range(1, 40):
            words = ["x"] + [str(at) for at in range(length)] + ["y"]
            texts = [["z"] * 50, ["z"] + [str(at) for at in range(length)] + ["z"] * 9]
            self.assertEqual(longest_common_run(texts, words), (length, 1, 1, 1))

    def test_small_cases_against_the_definition(self):
        exams = [list(words) for size in range(4) for words in itertools.product("abc", repeat=size)]
        texts = [list(words) for size in range(5) for words in itertools.product("ab", repeat=size)]
        texts += [list("abcabca"), list("cbacab"), list("c")]
        pairs = [[]] + [[exam] for exam in exams] + [[exams[at], exams[-at - 2]] for at in range(len(exams) - 1)]
        for given in pairs:
            for words in texts:
                self.assertEqual(longest_common_run(given, words), plain_longest(given, words), (given, words))


class SpeedTest(unittest.TestCase):
    def test_at_the_bounds(self):
        begin = time.perf_counter()
        self.assertEqual(longest_common_run([["a"] * 800] * 6, ["a"] * 1600), (800, 0, 0, 0))
        texts = [["b"] * at + ["a"] * (799 - at) + ["c"] for at in range(6)]
        self.assertEqual(longest_common_run(texts, ["a"] * 1600), (799, 0, 0, 0))
        words = [str(at) for at in range(1600)]
        texts = [words[at:at + 800] for at in (801, 0, 3, 5, 700, 800)]
        self.assertEqual(longest_common_run(texts, words), (800, 0, 1, 0))
        # One word is common to all places: many standings, but a short run.
        texts = [["a", "b"] * 400 for _ in range(6)]
        self.assertEqual(longest_common_run(texts, ["a", "c"] * 800), (1, 0, 0, 0))
        self.assertLess(time.perf_counter() - begin, 5)


if __name__ == "__main__":
    unittest.main()
