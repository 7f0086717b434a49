"""[c1] to [c5] and the sentences under Basics: arguments stay the same, and what is returned is new each time."""

import copy
import unittest

from corpuskeep.chains import told_chain
from corpuskeep.checking import accepts, why_not
from corpuskeep.classes import alike_pairs, group, kept_ids, meeting_pairs
from corpuskeep.cleaning import clean_documents, count_lines, drop_reason, left_words, line_fates
from corpuskeep.common import longest_common_run
from corpuskeep.corpora import exam_lists, make_corpus, stream, volumes
from corpuskeep.errors import TooLarge, UnknownCode
from corpuskeep.fates import counts, fate
from corpuskeep.fewest import fewest_places
from corpuskeep.filling import deal, fill
from corpuskeep.grammar import find_fault, parse_rules
from corpuskeep.joining import make_join, word_codes
from corpuskeep.journals import choose, empty_journal, extend, is_sealed, recover, seal
from corpuskeep.learning import best_pair, join_gains, learn_joins, pair_gain
from corpuskeep.lines import change_text, exam_words, hide_words, split_lines, text_lines
from corpuskeep.normal import format_rules
from corpuskeep.order import due, fair, phases
from corpuskeep.papers import certificate, read_certificate, write_certificate
from corpuskeep.pieces import covered_places, uncovered_pieces
from corpuskeep.positions import places_of, position
from corpuskeep.reading import code_text, read_codes, read_stream, text_length
from corpuskeep.records import read_deed, read_record, write_deed, write_record
from corpuskeep.rules import Rules, within_limits
from corpuskeep.shapes import has_any_shape, has_shape
from corpuskeep.shingles import compare, shingles
from corpuskeep.signs import read_signs
from corpuskeep.standing import phrase_cover, phrase_standings, standing_places
from corpuskeep.volumes import check_sum, read_number, read_volume, write_number, write_volume
from tests.samples import FULL_TEXT, frozen, make_contents, make_rules, spoil

RULES = make_rules(
    changes='change "A" to "a";', banned='ban "x";', lines="lines least 1, common 3;", hidden="hide digit 1 to 4;",
    shares="share letter 2 to 9: 1 of 2;",
)
LINES = [[("ab", 0, 1), ("12", 3, 4)], [], [("x", 7, 7)]]
WORD_LINES = [["ab", "12"], [], ["x"]]
COUNTS = {("ab", "12"): 1, (): 4, ("x",): 2}
PHRASES = (2, [["a", "b", "c"], ["b", "z"]], ["x", "a", "b", "c", "y", "a", "b", "z"])
DOCUMENTS = [(1, [["a", "b"], ["c"]]), (2, [["a", "b"], ["d"]]), (5, [["d"]]), (6, [["e", "a", "b"]])]
SHARE = (2, 1, 3)
JOINS = [(110, 113), (200, 121), (201, 34)]
WORDS = ["low", "low", "lower"]
CONTENTS = make_contents(
    [(1, 0, "a b c x y d e"), (2, 1, "a b c x y d e"), (3, 0, "x y"), (4, 1, "7 f"), (8, 1, "g h i")], ["x y z", "c"],
    sources="sources s 1, t 2;", shares="share digit: 0 of 1;", joins="joins 2;",
)
CORPUS = make_corpus(CONTENTS)
VOLUME = [2, 0, 3, 5, 172, 2, 0, 1, 0, 199, 88, 109, 172]
PAPER = certificate(CONTENTS, CORPUS)
WRONG_PAPER = (PAPER[0], PAPER[1], PAPER[2] + [7])
JOURNAL = extend(extend(empty_journal(), ("exams", ["a", "b\n"])), ("publish",))

CALLS = [
    (read_signs, ['sources a 1, "b" ;']),
    (within_limits, [RULES]),
    (parse_rules, [FULL_TEXT]),
    (find_fault, ["sources a 0;"]),
    (find_fault, [FULL_TEXT]),
    (format_rules, [RULES]),
    (has_shape, ["ab12", [("letter", 1, 3), ("digit", 0, 2)]]),
    (has_any_shape, ["ab12", [[("letter", 1, 3)], [("any", 4, 4)]]]),
    (change_text, ["a b", [("a", "cc"), (" ", "\n")]]),
    (split_lines, [[("a", 0), (" ", 1), ("b", 1), ("\n", 2), ("c", 3)]]),
    (hide_words, [LINES, [[("digit", 1, 2)]], "#"]),
    (hide_words, [LINES, [], "#"]),
    (text_lines, ["A 12\nx b", RULES]),
    (exam_words, ["A 12\nx b", RULES]),
    (count_lines, [[WORD_LINES, WORD_LINES, [[]]]]),
    (line_fates, [WORD_LINES, RULES, COUNTS]),
    (left_words, [LINES, [("kept",), ("kept",), ("banned", "x")]]),
    (drop_reason, [["ab", "cd", "1"], RULES]),
    (drop_reason, [["1"], RULES]),
    (clean_documents, [["A 12\nx b", "c\n\nx", ""], RULES]),
    (phrase_standings, [*PHRASES]),
    (phrase_cover, [*PHRASES, 3]),
    (standing_places, [*PHRASES]),
    (uncovered_pieces, [*PHRASES]),
    (covered_places, [*PHRASES]),
    (fewest_places, [*PHRASES]),
    (longest_common_run, [*PHRASES[1:]]),
    (shingles, [[["a", "b", "c"], ["d"], ["a", "b"]], 2]),
    (compare, [[["a", "b", "c"]], [["a", "b"], ["d"]], *SHARE]),
    (meeting_pairs, [DOCUMENTS, 2]),
    (alike_pairs, [DOCUMENTS, *SHARE]),
    (group, [DOCUMENTS, *SHARE]),
    (kept_ids, [DOCUMENTS, *SHARE]),
    (told_chain, [DOCUMENTS, *SHARE, 5]),
    (make_join, [[99, 99, 99], (99, 99), 200]),
    (make_join, [[99, 100], (99, 99), 200]),
    (make_join, [[], (99, 99), 200]),
    (word_codes, [JOINS, "lower"]),
    (pair_gain, [[[99, 99, 99], [], [99, 99]], (99, 99)]),
    (best_pair, [JOINS, WORDS]),
    (learn_joins, [10, WORDS]),
    (learn_joins, [0, WORDS]),
    (join_gains, [JOINS, WORDS]),
    (code_text, [JOINS, 202]),
    (text_length, [JOINS, [202, 201]]),
    (read_codes, [JOINS, [202, 34, 201]]),
    (read_stream, [JOINS, [202, 202, 1, 0, 202, 1, 1]]),
    (phases, [[1, 2, 1], [1, 9, 2]]),
    (due, [3, 2, 1]),
    (fair, [[2, 1], [4, 2], [0, 0, 1]]),
    (fill, [[5, 6, 1], 2]),
    (fill, [[5, 1], 2]),
    (deal, [[1, 2], [[5, 6, 1], [7, 1]], 2]),
    (write_number, [300]),
    (read_number, [[1, 172, 2], 1]),
    (check_sum, [[1, 172, 2]]),
    (write_volume, [[(0, [5, 300, 0]), (1, [])]]),
    (read_volume, [VOLUME]),
    (position, [CORPUS, 0, 0]),
    (places_of, [CORPUS, 1]),
    (make_corpus, [CONTENTS]),
    (exam_lists, [CONTENTS]),
    (stream, [CORPUS, 1]),
    (volumes, [CONTENTS, CORPUS]),
    (fate, [CONTENTS, CORPUS, 1]),
    (fate, [CONTENTS, CORPUS, 2]),
    (fate, [CONTENTS, CORPUS, 4]),
    (counts, [CONTENTS, CORPUS]),
    (write_deed, [("exams", ["a", "b\n"])]),
    (read_deed, [[5, 2, 1, 97, 2, 98, 0]]),
    (write_record, [3, [5, 2, 1, 97, 2, 98, 0]]),
    (read_record, [[9] + write_record(3, [5, 2, 1, 97, 2, 98, 0]), 1, 3]),
    (empty_journal, []),
    (extend, [JOURNAL, ("exams", ["c"])]),
    (recover, [JOURNAL + [1, 2]]),
    (seal, [JOURNAL]),
    (is_sealed, [seal(JOURNAL)]),
    (choose, [JOURNAL, seal(JOURNAL)]),
    (choose, [JOURNAL, []]),
    (certificate, [CONTENTS, CORPUS]),
    (write_certificate, [PAPER]),
    (read_certificate, [write_certificate(PAPER)]),
    (why_not, [CONTENTS, CORPUS, PAPER]),
    (why_not, [CONTENTS, CORPUS, WRONG_PAPER]),
    (accepts, [CONTENTS, CORPUS, PAPER]),
]


class PureTest(unittest.TestCase):
    def test_arguments_stay_the_same(self):
        for function, given in CALLS:
            before = frozen(given)
            function(*given)
            self.assertEqual(frozen(given), before, function.__name__)

    def test_what_is_returned_is_new(self):
        for function, given in CALLS:
            before = frozen(given)
            returned = function(*given)
            wanted = frozen(returned)
            spoil(returned)
            # Neither the arguments nor a later answer is touched by what the caller does with the answer.
            self.assertEqual(frozen(given), before, function.__name__)
            self.assertEqual(frozen(function(*given)), wanted, function.__name__)

    def test_later_changes_to_arguments_have_no_effect(self):
        for function, given in CALLS:
            if any(isinstance(part, Rules) for part in given):
                continue
            arguments = copy.deepcopy(given)
            returned = function(*arguments)
            wanted = frozen(returned)
            spoil(arguments)
            self.assertEqual(frozen(returned), wanted, function.__name__)

    def test_a_rules_object_is_not_changed_by_its_use(self):
        before = frozen(RULES)
        for function, given in CALLS:
            function(*given)
        self.assertEqual(frozen(RULES), before)


class KindsTest(unittest.TestCase):
    def test_truth_values(self):
        for value in (within_limits(RULES), has_shape("", []), has_any_shape("a", [])):
            self.assertIs(type(value), bool)

    def test_shapes_of_data(self):
        for line in text_lines("A 12\nb", RULES):
            for placed in line:
                self.assertEqual([type(part) for part in placed], [str, int, int])
                self.assertIs(type(placed), tuple)
        for piece in uncovered_pieces(*PHRASES):
            self.assertIs(type(piece), tuple)
            self.assertEqual([type(part) for part in piece], [int, list])
        for standing in phrase_standings(*PHRASES):
            self.assertIs(type(standing), tuple)
        self.assertIs(type(longest_common_run(*PHRASES[1:])), tuple)
        for reason, fates, words in clean_documents(["a", "a b"], RULES):
            self.assertIn(type(reason), (tuple, type(None)))
            self.assertEqual({type(fate) for fate in fates}, {tuple})
            self.assertEqual({type(placed) for placed in words}, {tuple})

    def test_shapes_of_likeness(self):
        self.assertEqual({type(shingle) for shingle in shingles([["a", "b", "c"]], 2)}, {tuple})
        self.assertEqual({type(pair) for pair in meeting_pairs(DOCUMENTS, 2)}, {tuple})
        self.assertEqual({type(pair) for pair in alike_pairs(DOCUMENTS, *SHARE)}, {tuple})
        self.assertEqual({type(ids) for ids in group(DOCUMENTS, *SHARE)}, {list})
        self.assertIs(type(kept_ids(DOCUMENTS, *SHARE)), dict)
        self.assertIs(type(told_chain(DOCUMENTS, *SHARE, 5)), list)

    def test_shapes_of_codes(self):
        self.assertEqual({type(pair) for pair in learn_joins(9, WORDS)}, {tuple})
        self.assertEqual([type(part) for part in best_pair(JOINS, WORDS)], [tuple, int])
        self.assertEqual([type(part) for part in read_codes(JOINS, [202, 110])], [list, str])
        self.assertIs(type(read_codes(JOINS, [])), tuple)
        for page in deal([1, 2], [[5, 6, 1], [7, 1]], 2):
            self.assertIs(type(page), tuple)
            self.assertEqual([type(part) for part in page], [int, list])
        self.assertIs(fair([1], [1], [0]), True)

    def test_a_call_that_raises_changes_nothing(self):
        joins = [(99, 99)] + [(200 + at, 200 + at) for at in range(19)]
        for error, function, codes in (
            (UnknownCode, text_length, [99, 0]), (UnknownCode, read_codes, [219, 220]), (TooLarge, read_codes, [219]),
        ):
            before = frozen([joins, codes])
            with self.assertRaises(error):
                function(joins, codes)
            self.assertEqual(frozen([joins, codes]), before)

    def test_characters(self):
        rules = make_rules(hidden="hide letter 1 to 9; hide digit 1 to 9;")
        for code in range(33, 127):
            char = chr(code)
            if char == "\u0025":
                continue
            hidden = "0" <= char <= "9" or "a" <= char.lower() <= "z"
            self.assertEqual(text_lines(f" {char} ", rules), [[("#" if hidden else char, 1, 1)]])


if __name__ == "__main__":
    unittest.main()
