"""[t7] the text of a code and reading, [t8] reading a stream."""

import random
import time
import unittest

from corpuskeep.errors import TooLarge, UnknownCode
from corpuskeep.joining import word_codes
from corpuskeep.learning import learn_joins
from corpuskeep.reading import code_text, read_codes, read_stream, text_length
from tests.test_joining import LOWER, char_codes

SPACE = 34
# The join with the index i stands for 2 ** (i + 1) times the letter a.
DOUBLES = [(99, 99)] + [(200 + at, 200 + at) for at in range(29)]
# These stand for just 100000 characters together.
JUST = [215, 214, 209, 208, 206, 204]


def just_joins():
    """Return joins of which the last but one stands for 100000 characters, and the last for one more."""
    joins = DOUBLES[:16]
    code = JUST[0]
    for other in JUST[1:]:
        joins = joins + [(code, other)]
        code = 199 + len(joins)
    return joins + [(code, 99)]


def stream_of(joins, pieces):
    codes = []
    for words in pieces:
        for word in words:
            codes.extend(word_codes(joins, word))
        codes.append(1)
    return codes


class CodeTextTest(unittest.TestCase):
    def test_characters(self):
        self.assertEqual(code_text([], 12), "\n")
        self.assertEqual(code_text([], 34), " ")
        self.assertEqual(code_text([], 99), "a")
        self.assertEqual(code_text(LOWER, 128), "~")
        self.assertEqual(code_text([], 94), "\\")

    def test_just_the_characters_of_texts_have_codes(self):
        for code in range(-5, 210):
            char = chr(code - 2) if code >= 2 else ""
            if char == "\n" or (" " <= char <= "~" and char != "\u0025"):
                self.assertEqual(code_text([], code), char)
            else:
                with self.assertRaises(UnknownCode) as caught:
                    code_text([], code)
                self.assertEqual(caught.exception.code, code)

    def test_joins_of_joins(self):
        self.assertEqual([code_text(LOWER, code) for code in (200, 201, 202)], ["lo", "low", "low "])
        self.assertEqual(code_text([(99, 100), (101, 200), (201, 200)], 202), "cabab")
        self.assertEqual(code_text(DOUBLES, 204), "a" * 32)

    def test_unknown_codes(self):
        for joins, code in ((LOWER, 0), (LOWER, 1), (LOWER, -1), (LOWER, -200), (LOWER, 203), ([], 200),
                            (LOWER, 129), (LOWER, 199), (LOWER, 11), (LOWER, 13), (LOWER, 33), (LOWER, 39),
                            (LOWER, 10 ** 6)):
            with self.assertRaises(UnknownCode) as caught:
                code_text(joins, code)
            self.assertEqual(caught.exception.code, code)

    def test_just_100000_characters_and_one_more(self):
        joins = just_joins()
        self.assertEqual(code_text(joins, 198 + len(joins)), "a" * 100000)
        with self.assertRaises(TooLarge):
            code_text(joins, 199 + len(joins))

    def test_texts_that_are_far_too_large(self):
        self.assertEqual(len(code_text(DOUBLES, 215)), 65536)
        for code in range(216, 230):
            with self.assertRaises(TooLarge):
                code_text(DOUBLES, code)


class LengthTest(unittest.TestCase):
    def test_lengths(self):
        self.assertEqual(text_length(LOWER, [202, 201, 103]), 8)
        self.assertEqual(text_length(LOWER, [12, 34]), 2)
        self.assertEqual(text_length([], []), 0)
        self.assertEqual(text_length(DOUBLES, [229, 229, 99]), 2 ** 31 + 1)

    def test_the_first_unknown_code(self):
        for codes, unknown in (([99, 0, 1], 0), ([1], 1), ([202, 203, -1], 203), ([-7, 99], -7), ([229, 39], 229)):
            with self.assertRaises(UnknownCode) as caught:
                text_length(LOWER, codes)
            self.assertEqual(caught.exception.code, unknown)

    def test_no_limit(self):
        begin = time.perf_counter()
        self.assertEqual(text_length(DOUBLES, [229] * 2000), 2000 * 2 ** 30)
        self.assertLess(time.perf_counter() - begin, 1)


class ReadCodesTest(unittest.TestCase):
    def test_the_example(self):
        self.assertEqual(read_codes(LOWER, [202, 201, 103]), (["low"], "lowe"))

    def test_words_and_rest(self):
        self.assertEqual(read_codes([], []), ([], ""))
        self.assertEqual(read_codes([], char_codes("ab")), ([], "ab"))
        self.assertEqual(read_codes([], char_codes("ab ")), (["ab"], ""))
        self.assertEqual(read_codes([], char_codes("a b c")), (["a", "b"], "c"))

    def test_empty_words(self):
        self.assertEqual(read_codes([], [34]), ([""], ""))
        self.assertEqual(read_codes([], char_codes("  a  ")), (["", "", "a", ""], ""))
        self.assertEqual(read_codes([], char_codes(" a")), ([""], "a"))

    def test_a_newline_is_a_character_like_others(self):
        self.assertEqual(read_codes([], char_codes("a\nb \n c\n")), (["a\nb", "\n"], "c\n"))
        self.assertEqual(read_codes([(12, 34)], [200, 12]), (["\n"], "\n"))

    def test_a_join_with_spaces_within(self):
        self.assertEqual(read_codes([(34, 99), (200, 34)], [100, 201, 200]), (["b", "a", ""], "a"))

    def test_unknown_codes(self):
        for code in (0, 1, -1, 11, 33, 39, 129, 199, 203):
            with self.assertRaises(UnknownCode) as caught:
                read_codes(LOWER, [99, 202, code, 0])
            self.assertEqual(caught.exception.code, code)

    def test_unknown_codes_come_before_too_large(self):
        with self.assertRaises(UnknownCode) as caught:
            read_codes(DOUBLES, [229] * 9 + [230, 0])
        self.assertEqual(caught.exception.code, 230)

    def test_just_100000_characters_and_one_more(self):
        self.assertEqual(text_length(DOUBLES, JUST), 100000)
        self.assertEqual(read_codes(DOUBLES, JUST), ([], "a" * 100000))
        self.assertEqual(read_codes(DOUBLES, JUST[::-1]), ([], "a" * 100000))
        for codes in (JUST + [99], [34] + JUST, [229] * 2000):
            with self.assertRaises(TooLarge):
                read_codes(DOUBLES, codes)

    def test_words_of_codes_read_back(self):
        source = random.Random(14)
        for _ in range(100):
            words = ["".join(source.choice("ab~") for _ in range(source.randrange(1, 9))) for _ in range(12)]
            joins = learn_joins(9, words[:8])
            codes = [code for word in words for code in word_codes(joins, word)]
            self.assertEqual(read_codes(joins, codes), (words, ""))
            self.assertEqual(text_length(joins, codes), sum(len(word) + 1 for word in words))


class ReadStreamTest(unittest.TestCase):
    PIECES = [["low", "lower"], ["x"], ["low"]]

    def test_pieces(self):
        self.assertEqual(read_stream(LOWER, stream_of(LOWER, self.PIECES)), self.PIECES)
        self.assertEqual(read_stream([], stream_of([], self.PIECES)), self.PIECES)

    def test_no_codes_at_all(self):
        self.assertEqual(read_stream(LOWER, []), [])
        self.assertEqual(read_stream([], [0, 0, 0]), [])

    def test_empty_pieces(self):
        self.assertEqual(read_stream([], [1]), [[]])
        self.assertEqual(read_stream(LOWER, [1, 202, 1, 1]), [[], ["low"], []])

    def test_fillings_anywhere(self):
        stream = stream_of(LOWER, self.PIECES)
        for at in range(len(stream) + 1):
            self.assertEqual(read_stream(LOWER, stream[:at] + [0, 0] + stream[at:]), self.PIECES)
        self.assertEqual(read_stream([], [0, 99, 0, 100, 0, 34, 0, 1, 0]), [["ab"]])
        self.assertEqual(read_stream([], [0, 1, 0]), [[]])

    def test_random_pieces_read_back(self):
        source = random.Random(15)
        for _ in range(100):
            pieces = [
                ["".join(source.choice("abc~") for _ in range(source.randrange(1, 6)))
                 for _ in range(source.randrange(1, 5))]
                for _ in range(source.randrange(5))
            ]
            joins = learn_joins(9, [word for words in pieces for word in words])
            stream = stream_of(joins, pieces)
            self.assertEqual(read_stream(joins, stream), pieces)
            filled = [code for one in stream for code in [0] * source.randrange(3) + [one]]
            self.assertEqual(read_stream(joins, filled), pieces)


class SpeedTest(unittest.TestCase):
    def test_at_the_bounds(self):
        begin = time.perf_counter()
        read_codes(DOUBLES, [204, 34] * 1000)
        for code in range(200, 216):
            code_text(DOUBLES, code)
        pieces = [["a" * 39] * 50] * 24 * 2 + [["b"] * 1600] * 24
        self.assertEqual(read_stream(DOUBLES, stream_of(DOUBLES, pieces)), pieces)
        self.assertEqual(read_stream([], stream_of([], pieces)), pieces)
        self.assertLess(time.perf_counter() - begin, 5)


if __name__ == "__main__":
    unittest.main()
