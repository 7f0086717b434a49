"""[d1] changing a text, [d2] lines, words and places, [d4] hidden words, [d7] exam texts."""

import itertools
import unittest

from corpuskeep.lines import change_text, exam_words, hide_words, split_lines, text_lines
from tests.samples import make_rules


def lines_of(text):
    return split_lines(change_text(text, []))


class ChangeTest(unittest.TestCase):
    def test_no_changes(self):
        self.assertEqual(change_text("ab\n", []), [("a", 0), ("b", 1), ("\n", 2)])
        self.assertEqual(change_text("", []), [])
        self.assertEqual(change_text("", [("a", "b")]), [])

    def test_one_character_for_another(self):
        self.assertEqual(change_text("aXa", [("a", "b")]), [("b", 0), ("X", 1), ("b", 2)])

    def test_to_the_empty_text(self):
        self.assertEqual(change_text("a-b--", [("-", "")]), [("a", 0), ("b", 2)])
        self.assertEqual(change_text("---", [("-", "")]), [])

    def test_to_several_characters(self):
        self.assertEqual(change_text("a&b", [("&", "and")]), [("a", 0), ("a", 1), ("n", 1), ("d", 1), ("b", 2)])

    def test_characters_from_a_change_are_not_changed_again(self):
        self.assertEqual(change_text("ab", [("a", "b"), ("b", "a")]), [("b", 0), ("a", 1)])
        self.assertEqual(change_text("a", [("a", "aa")]), [("a", 0), ("a", 0)])
        self.assertEqual(change_text("abc", [("b", ""), ("a", "bc"), ("c", "a")]), [("b", 0), ("c", 0), ("a", 2)])

    def test_to_and_from_blanks(self):
        self.assertEqual(change_text("a.b", [(".", " \n")]), [("a", 0), (" ", 1), ("\n", 1), ("b", 2)])
        self.assertEqual(change_text("a\nb c", [("\n", "/"), (" ", "")]), [("a", 0), ("/", 1), ("b", 2), ("c", 4)])

    def test_upper_and_lower_case_differ(self):
        self.assertEqual(change_text("Aa", [("A", "x")]), [("x", 0), ("a", 1)])


class SplitTest(unittest.TestCase):
    def test_the_example(self):
        self.assertEqual(split_lines(change_text("Ab c", [("A", "a")])), [[("ab", 0, 1), ("c", 3, 3)]])

    def test_empty_texts_and_lines(self):
        self.assertEqual(split_lines([]), [[]])
        self.assertEqual(lines_of("\n"), [[], []])
        self.assertEqual(lines_of("   "), [[]])
        self.assertEqual(lines_of("\n a\n\n"), [[], [("a", 2, 2)], [], []])

    def test_n_newlines_make_n_plus_1_lines(self):
        for size in range(6):
            for chars in itertools.product("a \n", repeat=size):
                text = "".join(chars)
                lines = lines_of(text)
                self.assertEqual(len(lines), text.count("\n") + 1)
                self.assertEqual([[word for word, _, _ in line] for line in lines], [
                    row.split() for row in text.split("\n")
                ])
                for word, first, last in itertools.chain(*lines):
                    self.assertEqual(text[first:last + 1], word)
                    self.assertIn(text[first - 1:first], ("", " ", "\n"))
                    self.assertIn(text[last + 1:last + 2], ("", " ", "\n"))

    def test_several_blanks(self):
        self.assertEqual(lines_of("  ab   c  "), [[("ab", 2, 3), ("c", 7, 7)]])

    def test_places_are_those_of_the_original_text(self):
        self.assertEqual(split_lines(change_text("a-b &", [("-", ""), ("&", "and x")])), [
            [("ab", 0, 2), ("and", 4, 4), ("x", 4, 4)],
        ])
        # The last character of the word comes from the change of the one at 1.
        self.assertEqual(split_lines(change_text("a&-", [("&", "nd"), ("-", "")])), [[("and", 0, 1)]])
        self.assertEqual(split_lines(change_text("-ab", [("-", "")])), [[("ab", 1, 2)]])

    def test_changes_to_newlines_and_blanks(self):
        self.assertEqual(split_lines(change_text("a;b c\nd", [(";", "\n"), (" ", ""), ("\n", "-")])), [
            [("a", 0, 0)], [("bc-d", 2, 6)],
        ])
        self.assertEqual(split_lines(change_text("ab", [("a", "x\ny z"), ("b", "\n")])), [
            [("x", 0, 0)], [("y", 0, 0), ("z", 0, 0)], [],
        ])


class HideTest(unittest.TestCase):
    def test_the_mark_in_place_of_hidden_words(self):
        lines = [[("1987", 0, 3), ("a", 5, 5)], [], [("12", 7, 8), ("b2", 10, 11)]]
        self.assertEqual(hide_words(lines, [[("digit", 2, 4)]], "#"), [
            [("#", 0, 3), ("a", 5, 5)], [], [("#", 7, 8), ("b2", 10, 11)],
        ])

    def test_at_least_one_shape(self):
        lines = [[("ab", 0, 1), ("12", 3, 4), ("a1", 6, 7)]]
        self.assertEqual(hide_words(lines, [[("letter", 2, 2)], [("digit", 1, 9)]], "[x]"), [
            [("[x]", 0, 1), ("[x]", 3, 4), ("a1", 6, 7)],
        ])

    def test_no_shapes(self):
        lines = [[("a", 0, 0)], []]
        self.assertEqual(hide_words(lines, [], "#"), lines)

    def test_the_same_word_several_times(self):
        lines = [[("1", 0, 0), ("1", 2, 2)], [("1", 4, 4), ("a", 6, 6), ("a", 8, 8)]]
        self.assertEqual(hide_words(lines, [[("digit", 1, 1)]], "#"), [
            [("#", 0, 0), ("#", 2, 2)], [("#", 4, 4), ("a", 6, 6), ("a", 8, 8)],
        ])


class TextLinesTest(unittest.TestCase):
    rules = make_rules(changes='change "-" to ""; change "/" to "\n";', hidden="hide digit 4;", mark='mark "<y>";')

    def test_the_three_together(self):
        self.assertEqual(text_lines("in 19-87/a 1987b\n12", self.rules), [
            [("in", 0, 1), ("<y>", 3, 7)], [("a", 9, 9), ("1987b", 11, 15)], [("12", 17, 18)],
        ])
        self.assertEqual(text_lines("", self.rules), [[]])

    def test_shapes_are_asked_of_the_changed_words(self):
        rules = make_rules(changes='change "x" to "12";', hidden="hide digit 4;")
        self.assertEqual(text_lines("xx 1234 x", rules), [[("#", 0, 1), ("#", 3, 6), ("12", 8, 8)]])

    def test_the_mark_is_not_changed(self):
        rules = make_rules(changes='change "#" to "no";', hidden="hide digit 2;")
        self.assertEqual(text_lines("# 12", rules), [[("no", 0, 0), ("#", 2, 3)]])


class ExamTest(unittest.TestCase):
    def test_changes_and_hidden_words(self):
        rules = make_rules(changes='change "A" to "a b";', hidden="hide digit 1 to 9;")
        self.assertEqual(exam_words("A 12\n\n c1 A", rules), ["a", "b", "#", "c1", "a", "b"])
        self.assertEqual(exam_words("", rules), [])
        self.assertEqual(exam_words("\n \n", rules), [])

    def test_nothing_is_dropped(self):
        rules = make_rules(
            banned='ban "x", "y";', lines="lines least 3, common 1;", documents="documents least 50;",
            shares="share any 1 to 40: 0 of 1;",
        )
        self.assertEqual(exam_words("x y\ny\na b c d x\ny", rules), ["x", "y", "y", "a", "b", "c", "d", "x", "y"])


if __name__ == "__main__":
    unittest.main()
