"""[r2] places, [r3] signs, [r4] sign faults, [r5] the end of the list."""

import unittest

from corpuskeep.signs import read_signs


def plain(text):
    """Return the signs without their places."""
    return [(kind, value) for kind, value, line, column in read_signs(text)]


class KindsTest(unittest.TestCase):
    def test_the_example(self):
        self.assertEqual(read_signs('a 07;"x""y"'), [
            ("name", "a", 1, 1), ("number", 7, 1, 3), ("symbol", ";", 1, 5), ("quoted", 'x"y', 1, 6),
            ("end", "", 1, 12),
        ])

    def test_names(self):
        for name in ("a", "Z", "zA9_", "x__", "B0", "a" * 20, "sources", "to"):
            self.assertEqual(read_signs(name), [("name", name, 1, 1), ("end", "", 1, len(name) + 1)])

    def test_numbers(self):
        for text, value in (("0", 0), ("7", 7), ("000", 0), ("007", 7), ("1000", 1000), ("9" * 15, 10 ** 15 - 1)):
            self.assertEqual(read_signs(text), [("number", value, 1, 1), ("end", "", 1, len(text) + 1)])

    def test_a_number_is_an_integer(self):
        self.assertIs(type(read_signs("12")[0][1]), int)

    def test_symbols(self):
        self.assertEqual(read_signs(",;:"), [
            ("symbol", ",", 1, 1), ("symbol", ";", 1, 2), ("symbol", ":", 1, 3), ("end", "", 1, 4),
        ])

    def test_quoted_texts(self):
        cases = [
            ('""', ""), ('"a"', "a"), ('" a  b "', " a  b "), ('"12,;:$_"', "12,;:$_"), ('""""', '"'),
            ('"a""b"', 'a"b'), ('"""a"', '"a'), ('"a"""', 'a"'), ('""""""', '""'), ('"a""""b"', 'a""b'),
        ]
        for text, value in cases:
            self.assertEqual(read_signs(text), [("quoted", value, 1, 1), ("end", "", 1, len(text) + 1)], text)

    def test_a_quoted_text_may_hold_newlines(self):
        self.assertEqual(read_signs('"a\n b" c'), [("quoted", "a\n b", 1, 1), ("name", "c", 2, 5), ("end", "", 2, 6)])


class SideBySideTest(unittest.TestCase):
    def test_signs_without_blanks(self):
        self.assertEqual(plain("2letter"), [("number", 2), ("name", "letter"), ("end", "")])
        self.assertEqual(plain('"a"b'), [("quoted", "a"), ("name", "b"), ("end", "")])
        self.assertEqual(plain("letter2"), [("name", "letter2"), ("end", "")])
        self.assertEqual(plain('a"b"2,3;c:'), [
            ("name", "a"), ("quoted", "b"), ("number", 2), ("symbol", ","), ("number", 3), ("symbol", ";"),
            ("name", "c"), ("symbol", ":"), ("end", ""),
        ])
        self.assertEqual(plain('2"x"3'), [("number", 2), ("quoted", "x"), ("number", 3), ("end", "")])
        self.assertEqual(plain("2a3_b"), [("number", 2), ("name", "a3_b"), ("end", "")])

    def test_quoted_texts_with_a_blank_between_are_two(self):
        self.assertEqual(plain('"a" "b"'), [("quoted", "a"), ("quoted", "b"), ("end", "")])
        self.assertEqual(plain('"a""b"'), [("quoted", 'a"b'), ("end", "")])

    def test_numbers_with_a_blank_between_are_two(self):
        self.assertEqual(plain("1 2\n3"), [("number", 1), ("number", 2), ("number", 3), ("end", "")])

    def test_places_without_blanks(self):
        self.assertEqual(read_signs('12ab"c",'), [
            ("number", 12, 1, 1), ("name", "ab", 1, 3), ("quoted", "c", 1, 5), ("symbol", ",", 1, 8),
            ("end", "", 1, 9),
        ])


class PlacesTest(unittest.TestCase):
    def test_the_empty_text(self):
        self.assertEqual(read_signs(""), [("end", "", 1, 1)])

    def test_blanks_only(self):
        self.assertEqual(read_signs("   "), [("end", "", 1, 4)])
        self.assertEqual(read_signs("\n"), [("end", "", 2, 1)])
        self.assertEqual(read_signs(" \n\n  "), [("end", "", 3, 3)])

    def test_blanks_and_newlines_between(self):
        self.assertEqual(read_signs("  a\n\n 2\n;  b \n"), [
            ("name", "a", 1, 3), ("number", 2, 3, 2), ("symbol", ";", 4, 1), ("name", "b", 4, 4), ("end", "", 5, 1),
        ])


class FaultsTest(unittest.TestCase):
    def test_name_too_long(self):
        self.assertEqual(read_signs("a" * 21), [("fault", "name too long", 1, 21)])
        self.assertEqual(read_signs("a" * 50), [("fault", "name too long", 1, 21)])
        self.assertEqual(read_signs("2\n  b" + "_9" * 10), [("number", 2, 1, 1), ("fault", "name too long", 2, 23)])

    def test_quoted_text_without_an_end(self):
        message = "quoted text without an end"
        self.assertEqual(read_signs('"'), [("fault", message, 1, 2)])
        self.assertEqual(read_signs('"""'), [("fault", message, 1, 4)])
        self.assertEqual(read_signs('"a""'), [("fault", message, 1, 5)])
        self.assertEqual(read_signs('x "a b\nc $'), [("name", "x", 1, 1), ("fault", message, 2, 4)])
        self.assertEqual(read_signs('"a\n'), [("fault", message, 2, 1)])
        self.assertEqual(read_signs('"a" "'), [("quoted", "a", 1, 1), ("fault", message, 1, 6)])

    def test_unexpected_character(self):
        for char in "_-+.!#$&'()*/<=>?@[\\]^`{|}~":
            self.assertEqual(read_signs("a\n" + char), [
                ("name", "a", 1, 1), ("fault", "unexpected character", 2, 1),
            ], char)

    def test_a_fault_directly_behind_a_sign(self):
        self.assertEqual(read_signs("ab-c"), [("name", "ab", 1, 1), ("fault", "unexpected character", 1, 3)])
        self.assertEqual(read_signs("12_"), [("number", 12, 1, 1), ("fault", "unexpected character", 1, 3)])

    def test_reading_stops_at_the_first_fault(self):
        for behind in ("", " a", '"', "$", "b" * 30, "\n\n1"):
            self.assertEqual(read_signs("1 $ " + behind), [
                ("number", 1, 1, 1), ("fault", "unexpected character", 1, 3),
            ])
            self.assertEqual(read_signs("c" * 22 + "- " + behind), [("fault", "name too long", 1, 21)])


if __name__ == "__main__":
    unittest.main()
