"""[d5] what becomes of a line, [d6] what is left and why a document is dropped."""

import time
import unittest

from corpuskeep.cleaning import clean_documents, count_lines, drop_reason, left_words, line_fates
from tests.samples import make_rules


def words_of(placed):
    return [word for word, first, last in placed]


class CountTest(unittest.TestCase):
    def test_in_how_many_documents_a_line_stands(self):
        documents = [[["a", "b"], ["c"]], [["c"], ["b", "a"]], [["c"]]]
        self.assertEqual(count_lines(documents), {("a", "b"): 1, ("c",): 3, ("b", "a"): 1})

    def test_twice_in_one_document_counts_once(self):
        self.assertEqual(count_lines([[["a"], ["a"], []], [["a"], [], []]]), {("a",): 2, (): 2})

    def test_lines_without_words_count(self):
        self.assertEqual(count_lines([[[]], [[], ["a"]]]), {(): 2, ("a",): 1})

    def test_nothing_to_count(self):
        self.assertEqual(count_lines([]), {})
        self.assertEqual(count_lines([[], []]), {})

    def test_words_are_not_joined(self):
        self.assertEqual(count_lines([[["a b"], ["a", "b"]]]), {("a b",): 1, ("a", "b"): 1})


class FatesTest(unittest.TestCase):
    def fates(self, found, counts, **parts):
        return line_fates(found, make_rules(**parts), counts)

    def test_kept(self):
        counts = {("a", "b"): 9, (): 9}
        self.assertEqual(self.fates([["a", "b"], []], counts), [("kept",), ("kept",)])
        self.assertEqual(self.fates([], {}), [])

    def test_short(self):
        lines = [[], ["a"], ["a", "b"], ["a", "b", "c"]]
        counts = {tuple(line): 1 for line in lines}
        self.assertEqual(self.fates(lines, counts, lines="lines least 2;"), [
            ("short",), ("short",), ("kept",), ("kept",),
        ])

    def test_banned(self):
        lines = [["a", "x"], ["y", "x", "y"], ["xy", "X"], []]
        counts = {tuple(line): 1 for line in lines}
        self.assertEqual(self.fates(lines, counts, banned='ban "x", "y";'), [
            ("banned", "x"), ("banned", "y"), ("kept",), ("kept",),
        ])

    def test_common(self):
        lines = [["a"], ["b"], ["c"], []]
        counts = {("a",): 1, ("b",): 2, ("c",): 3, (): 5}
        self.assertEqual(self.fates(lines, counts, lines="lines common 2;"), [
            ("kept",), ("common", 2), ("common", 3), ("common", 5),
        ])
        self.assertEqual(self.fates(lines, counts, lines="lines common 1;"), [
            ("common", 1), ("common", 2), ("common", 3), ("common", 5),
        ])

    def test_common_0_makes_no_line_common(self):
        for text in ("", "lines common 0;"):
            self.assertEqual(self.fates([["a"], []], {("a",): 24, (): 24}, lines=text), [("kept",), ("kept",)])

    def test_the_first_that_applies(self):
        counts = {("x",): 9, ("x", "a"): 9, ("b", "a"): 9}
        fates = self.fates(
            [["x"], ["x", "a"], ["b", "a"]], counts, banned='ban "x";', lines="lines least 2, common 2;",
        )
        self.assertEqual(fates, [("short",), ("banned", "x"), ("common", 9)])

    def test_the_first_banned_word_of_the_line(self):
        counts = {("b", "c", "a"): 1}
        self.assertEqual(self.fates([["b", "c", "a"]], counts, banned='ban "a", "c";'), [("banned", "c")])


class LeftTest(unittest.TestCase):
    def test_the_words_of_the_kept_lines(self):
        lines = [[("a", 0, 0)], [("b", 2, 2)], [], [("c", 5, 5), ("d", 7, 7)], [("e", 9, 9)]]
        fates = [("kept",), ("short",), ("kept",), ("kept",), ("common", 2)]
        self.assertEqual(left_words(lines, fates), [("a", 0, 0), ("c", 5, 5), ("d", 7, 7)])
        self.assertEqual(left_words(lines, [("banned", "kept")] * 5), [])
        self.assertEqual(left_words([], []), [])


class DropTest(unittest.TestCase):
    def test_short(self):
        rules = make_rules(documents="documents least 3;")
        self.assertEqual(drop_reason([], rules), ("short",))
        self.assertEqual(drop_reason(["a", "b"], rules), ("short",))
        self.assertIsNone(drop_reason(["a", "b", "c"], rules))

    def test_a_share_met_exactly_and_exceeded(self):
        rules = make_rules(shares="share digit 1 to 9: 1 of 3;")
        self.assertIsNone(drop_reason(["1", "a", "b"], rules))
        self.assertIsNone(drop_reason(["1", "2", "a", "b", "c", "d"], rules))
        self.assertEqual(drop_reason(["1", "2", "3", "b", "c", "d"], rules), ("share", 0))
        self.assertEqual(drop_reason(["1", "1", "a"], rules), ("share", 0))
        self.assertEqual(drop_reason(["1", "a"], rules), ("share", 0))

    def test_a_word_that_stands_several_times_counts_as_often(self):
        rules = make_rules(shares="share digit: 1 of 2;")
        self.assertIsNone(drop_reason(["1", "1", "a", "a"], rules))
        self.assertEqual(drop_reason(["1", "1", "1", "a", "a"], rules), ("share", 0))

    def test_the_first_share_that_applies(self):
        rules = make_rules(shares="share digit: 1 of 2; share letter: 1 of 4; share any: 1 of 4;")
        self.assertEqual(drop_reason(["1", "a"], rules), ("share", 1))
        self.assertEqual(drop_reason(["1", "1", "a"], rules), ("share", 0))
        self.assertEqual(drop_reason(["1", "-"], rules), ("share", 2))

    def test_a_share_of_0_and_a_share_of_all(self):
        rules = make_rules(shares="share digit: 0 of 5;")
        self.assertIsNone(drop_reason(["a"] * 9, rules))
        self.assertEqual(drop_reason(["a"] * 9 + ["1"], rules), ("share", 0))
        self.assertIsNone(drop_reason(["1"] * 9, make_rules(shares="share digit: 5 of 5;")))

    def test_short_comes_before_a_share(self):
        rules = make_rules(documents="documents least 2;", shares="share any: 0 of 1;")
        self.assertEqual(drop_reason(["a"], rules), ("short",))
        self.assertEqual(drop_reason(["a", "a"], rules), ("share", 0))

    def test_the_mark_counts_by_its_own_shape(self):
        rules = make_rules(hidden="hide digit 4;", shares='share "#": 0 of 1;')
        self.assertEqual(drop_reason(["a", "#"], rules), ("share", 0))


class DocumentsTest(unittest.TestCase):
    def test_documents_with_each_fate_and_reason(self):
        rules = make_rules(
            changes='change "A" to "a";', banned='ban "ad";', lines="lines least 2, common 2;",
            hidden="hide digit 4;", documents="documents least 3;", shares='share "#": 1 of 3;',
        )
        texts = ["A b\nx\nin 1987 we\nbuy Ad", "a b\nc d", "1987 1988 z\nf g", "x\nx"]
        self.assertEqual(clean_documents(texts, rules), [
            (None, [("common", 2), ("short",), ("kept",), ("banned", "ad")], [
                ("in", 6, 7), ("#", 9, 12), ("we", 14, 15),
            ]),
            (("short",), [("common", 2), ("kept",)], [("c", 4, 4), ("d", 6, 6)]),
            (("share", 0), [("kept",), ("kept",)], [
                ("#", 0, 3), ("#", 5, 8), ("z", 10, 10), ("f", 12, 12), ("g", 14, 14),
            ]),
            (("short",), [("short",), ("short",)], []),
        ])

    def test_dropped_documents_count_for_common_lines(self):
        rules = make_rules(lines="lines common 2;", documents="documents least 2;")
        cleaned = clean_documents(["a", "a\nb c d"], rules)
        self.assertEqual([reason for reason, _, _ in cleaned], [("short",), None])
        self.assertEqual(cleaned[0][1], [("common", 2)])
        self.assertEqual(cleaned[1][1], [("common", 2), ("kept",)])

    def test_a_line_twice_in_one_document_is_not_common(self):
        rules = make_rules(lines="lines common 2;")
        self.assertEqual(clean_documents(["a\na\n\n"], rules), [
            (None, [("kept",)] * 4, [("a", 0, 0), ("a", 2, 2)]),
        ])

    def test_lines_are_the_same_after_changes_and_hiding(self):
        rules = make_rules(changes='change "A" to "a";', hidden="hide digit 1 to 9;", lines="lines common 2;")
        cleaned = clean_documents(["A  12", "a 7 "], rules)
        self.assertEqual([fates for _, fates, _ in cleaned], [[("common", 2)], [("common", 2)]])

    def test_short_and_banned_lines_count_too(self):
        rules = make_rules(banned='ban "x";', lines="lines common 2;")
        self.assertEqual(clean_documents(["x", "\nx", ""], rules), [
            (("short",), [("banned", "x")], []),
            (("short",), [("common", 2), ("banned", "x")], []),
            (("short",), [("common", 2)], []),
        ])

    def test_banned_words_are_asked_after_hiding(self):
        rules = make_rules(hidden="hide digit 2;", banned='ban "12", "#";')
        self.assertEqual(clean_documents(["12\n1"], rules), [
            (None, [("banned", "#"), ("kept",)], [("1", 3, 3)]),
        ])

    def test_no_documents_and_empty_ones(self):
        rules = make_rules()
        self.assertEqual(clean_documents([], rules), [])
        self.assertEqual(clean_documents([""], rules), [(("short",), [("kept",)], [])])

    def test_documents_at_the_bounds(self):
        rules = make_rules(
            changes="".join(f'change "{char}" to "{char} {char} b 1";' for char in "cdefghij"),
            hidden="hide any 0 to 40, digit 3, any 0 to 40, letter;" * 4,
            shares="share any 0 to 40, digit 0 to 40, letter 0 to 40, any 2 to 40: 1 of 2;" * 4,
        )
        texts = [("cdefghij" * 50)[at:] + "abcdefgh"[:at] for at in range(8)] * 3
        begin = time.perf_counter()
        cleaned = clean_documents(texts, rules)
        self.assertLess(time.perf_counter() - begin, 5)
        self.assertEqual(len(cleaned), 24)
        self.assertGreater(len(words_of(cleaned[0][2])), 1200)


if __name__ == "__main__":
    unittest.main()
