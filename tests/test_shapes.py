"""[d3] when a word has a shape."""

import itertools
import time
import unittest

from corpuskeep.shapes import has_any_shape, has_shape


def of_kind(char, kind):
    letters = "abcdefghijklmnopqrstuvwxyz"
    if kind == "letter":
        return char in letters + letters.upper()
    if kind == "digit":
        return char in "0123456789"
    return kind == "any" or char == kind


def plainly_has(word, shape):
    """The definition: try all ways to divide the word."""
    if not shape:
        return word == ""
    kind, least, most = shape[0]
    return any(
        least <= size <= most and all(of_kind(char, kind) for char in word[:size])
        and plainly_has(word[size:], shape[1:])
        for size in range(len(word) + 1)
    )


class KindsTest(unittest.TestCase):
    def test_the_example(self):
        self.assertIs(has_shape("a11", [("any", 0, 9), ("digit", 1, 1)]), True)

    def test_each_kind_for_each_character(self):
        for char in [chr(code) for code in range(32, 127) if code != 37] + ["\n"]:
            for kind in ("letter", "digit", "any", "a", "7", " ", "\n", "-", '"'):
                self.assertIs(has_shape(char, [(kind, 1, 1)]), of_kind(char, kind), (char, kind))

    def test_a_kind_of_one_character_is_that_character_only(self):
        self.assertIs(has_shape("l", [("l", 1, 1)]), True)
        self.assertIs(has_shape("L", [("l", 1, 1)]), False)
        self.assertIs(has_shape("e", [("l", 1, 1)]), False)


class NumbersTest(unittest.TestCase):
    def test_least_and_most_at_their_edges(self):
        for size in range(8):
            self.assertIs(has_shape("5" * size, [("digit", 2, 5)]), 2 <= size <= 5, size)
            self.assertIs(has_shape("5" * size, [("digit", 3, 3)]), size == 3, size)
            self.assertIs(has_shape("5" * size, [("digit", 0, 4)]), size <= 4, size)
            self.assertIs(has_shape("5" * size, [("digit", 0, 0)]), size == 0, size)

    def test_most_less_than_least(self):
        for word in ("", "a", "aa", "aaa", "aaaa"):
            self.assertIs(has_shape(word, [("letter", 3, 2)]), False)
            self.assertIs(has_shape(word, [("letter", 1, 0)]), False)
            self.assertIs(has_shape(word, [("any", 0, 9), ("letter", 2, 1), ("any", 0, 9)]), False)

    def test_the_shape_without_parts(self):
        self.assertIs(has_shape("", []), True)
        self.assertIs(has_shape("a", []), False)
        self.assertIs(has_shape(" ", []), False)

    def test_the_empty_text(self):
        self.assertIs(has_shape("", [("any", 0, 3)]), True)
        self.assertIs(has_shape("", [("any", 0, 0), ("x", 0, 5)]), True)
        self.assertIs(has_shape("", [("any", 0, 3), ("letter", 1, 1)]), False)

    def test_very_great_numbers(self):
        self.assertIs(has_shape("abc", [("letter", 0, 10 ** 15)]), True)
        self.assertIs(has_shape("abc", [("letter", 10 ** 14, 10 ** 15)]), False)


class DividingTest(unittest.TestCase):
    def test_parts_that_must_not_be_greedy(self):
        self.assertIs(has_shape("aab", [("letter", 0, 9), ("a", 1, 1), ("b", 1, 1)]), True)
        self.assertIs(has_shape("1234", [("digit", 1, 3), ("digit", 2, 2), ("any", 1, 1)]), True)
        self.assertIs(has_shape("xaxax", [("any", 0, 4), ("x", 1, 1), ("a", 1, 1), ("any", 1, 1)]), True)

    def test_parts_that_must_not_be_short_either(self):
        self.assertIs(has_shape("1111a", [("digit", 0, 2), ("digit", 0, 2), ("letter", 1, 1)]), True)
        self.assertIs(has_shape("11111a", [("digit", 0, 2), ("digit", 0, 2), ("letter", 1, 1)]), False)

    def test_the_parts_stand_in_order(self):
        self.assertIs(has_shape("a1", [("letter", 1, 1), ("digit", 1, 1)]), True)
        self.assertIs(has_shape("1a", [("letter", 1, 1), ("digit", 1, 1)]), False)

    def test_the_whole_word_is_divided(self):
        self.assertIs(has_shape("12a", [("digit", 1, 2)]), False)
        self.assertIs(has_shape("a12", [("digit", 1, 2)]), False)

    def test_all_short_words_against_the_definition(self):
        parts = [
            (kind, least, most)
            for kind in ("letter", "a", "any", "digit") for least, most in ((0, 1), (1, 2), (2, 2), (2, 1), (0, 3))
        ]
        words = ["".join(chars) for size in range(5) for chars in itertools.product("a1", repeat=size)]
        for shape in itertools.chain(itertools.product(parts, repeat=1), itertools.product(parts, repeat=2)):
            for word in words:
                self.assertIs(has_shape(word, list(shape)), plainly_has(word, shape), (word, shape))

    def test_three_parts_against_the_definition(self):
        parts = [("letter", 0, 2), ("a", 1, 1), ("any", 0, 1), ("b", 0, 3), ("any", 2, 3)]
        words = ["".join(chars) for size in range(6) for chars in itertools.product("ab", repeat=size)]
        for shape in itertools.product(parts, repeat=3):
            for word in words:
                self.assertIs(has_shape(word, list(shape)), plainly_has(word, shape), (word, shape))


class SpeedTest(unittest.TestCase):
    def test_a_long_word_and_a_wide_shape(self):
        begin = time.perf_counter()
        self.assertIs(has_shape("a" * 40, [("letter", 0, 60)] * 6), True)
        self.assertIs(has_shape("a" * 40, [("any", 0, 60)] * 5 + [("digit", 1, 60)]), False)
        self.assertIs(has_shape("a" * 40, [("a", 7, 60)] * 6), False)
        self.assertLess(time.perf_counter() - begin, 1)

    def test_the_longest_word_of_a_document(self):
        begin = time.perf_counter()
        self.assertIs(has_shape("a" * 3200, [("any", 0, 40)] * 6), False)
        self.assertLess(time.perf_counter() - begin, 1)


class AnyShapeTest(unittest.TestCase):
    def test_at_least_one_shape(self):
        number = [("digit", 1, 4)]
        name = [("letter", 2, 9)]
        self.assertIs(has_any_shape("1987", [number, name]), True)
        self.assertIs(has_any_shape("ab", [number, name]), True)
        self.assertIs(has_any_shape("a1", [number, name]), False)
        self.assertIs(has_any_shape("1", [number, number]), True)

    def test_no_shapes(self):
        self.assertIs(has_any_shape("a", []), False)
        self.assertIs(has_any_shape("", []), False)
        self.assertIs(has_any_shape("", [[]]), True)


if __name__ == "__main__":
    unittest.main()
