"""[p3] the checker's conditions in their order, [p4] what an accepted certificate means."""

import copy
import itertools
import random
import time
import unittest

from corpuskeep.checking import accepts, why_not
from corpuskeep.corpora import make_corpus
from corpuskeep.papers import certificate
from tests.plain import plain_corpus, plain_why_not
from tests.samples import CORPUS_FIELDS, corpus_fields, frozen, make_contents, random_contents

NAMES = ["cleaning", "phrases", "pieces", "duplicates", "published", "joins", "pages"]

# 1 and 9 are kept, 2 is alike to 1, 3 to 2 only; of 4 nothing is left; 5 is short, 6 has too many digits. The phrase
# x y stands twice among the exam texts.
CONTENTS = make_contents(
    [(1, 0, "a b c d x y x g"), (2, 1, "b c d e"), (3, 0, "c d e f"), (4, 0, "x y x"), (5, 0, "q"),
     (6, 1, "7 r 8 s"), (9, 1, "low low slow lower x y low x y w")],
    ["x y x", "z x y"], sources="sources s 1, t 2, u 3;", documents="documents least 2;",
    alike="alike 1 of 2, runs of 1;", shares="share digit: 1 of 5;", pieces="pieces least 1;", joins="joins 3;",
    pages="pages 2;",
)
CORPUS = make_corpus(CONTENTS)
PAPER = certificate(CONTENTS, CORPUS)


def replaced(corpus, **changed):
    """Return a copy of the corpus with other values of some fields."""
    other = copy.deepcopy(corpus)
    for name, value in changed.items():
        setattr(other, name, value)
    return other


def swapped(rows, at, row):
    return rows[:at] + [row] + rows[at + 1:]


def mutated(source, value):
    """Return a copy of a value that differs at one place, perhaps; tuples keep their lengths."""
    if isinstance(value, list):
        if not value:
            return value
        at = source.randrange(len(value))
        way = source.randrange(7)
        if way == 0:
            return value[:at] + value[at + 1:]
        if way == 1:
            return value[:at] + [copy.deepcopy(value[at])] + value[at:]
        if way == 2:
            other = source.randrange(len(value))
            return [value[other if k == at else at if k == other else k] for k in range(len(value))]
        return swapped(value, at, mutated(source, value[at]))
    if isinstance(value, tuple) and value:
        at = source.randrange(len(value))
        return value[:at] + (mutated(source, value[at]),) + value[at + 1:]
    if isinstance(value, int):
        return source.choice([value + 1, value - 1, value + 2, -value, -1, 0, 1, 10 ** 9, value])
    if isinstance(value, str):
        return source.choice([value + "a", "a", "b", value, "", "nothing", "kept"])
    return source.choice([("short",), (0, 0, 0), (0, 0, 1), (1, 0, 0), (-1, 0, 0), (0, -1, 0), (0, 0, -1), None])


class ExampleTest(unittest.TestCase):
    def test_the_example_has_all_kinds(self):
        kinds = ["kept", "chain", "chain", "nothing", "short", "share", "kept"]
        self.assertEqual([told[0] for told in PAPER[0]], kinds)
        self.assertEqual(PAPER[0][2], ("chain", [3, 2, 1]))
        self.assertEqual(len(CORPUS.phases), 2)
        self.assertEqual(PAPER[2], [5, 5, 4])
        self.assertEqual(CORPUS.phases, [[1, 0, 1, 1, 0, 1, 1, 0, 1, 1], [0, 0, 0]])

    def test_the_certificate_is_accepted(self):
        self.assertIsNone(why_not(CONTENTS, CORPUS, PAPER))
        self.assertIs(accepts(CONTENTS, CORPUS, PAPER), True)

    def test_a_refused_one(self):
        self.assertIs(accepts(CONTENTS, CORPUS, ([], [], [])), False)


class ConditionTest(unittest.TestCase):
    def assert_why(self, wanted, corpus=CORPUS, fates=PAPER[0], covers=PAPER[1], gains=PAPER[2], contents=CONTENTS):
        paper = (fates, covers, gains)
        before = frozen([contents, corpus, paper])
        self.assertEqual(why_not(contents, corpus, paper), wanted)
        self.assertIs(accepts(contents, corpus, paper), wanted is None)
        self.assertEqual(frozen([contents, corpus, paper]), before)

    def assert_fates(self, wanted, at, *fates):
        for told in fates:
            self.assert_why(wanted, fates=swapped(PAPER[0], at, told))

    # Condition 1

    def test_cleaned(self):
        rows = CORPUS.cleaned
        for cleaned in (
            [], rows[1:], rows[:-1], rows + rows[:1], rows[::-1],
            swapped(rows, 0, (1, None, ["a"])), swapped(rows, 0, (0,) + rows[0][1:]),
            swapped(rows, 0, (1, ("short",), rows[0][2])), swapped(rows, 4, (5, None, ["q"])),
            swapped(rows, 4, (5, ("short",), [])), swapped(rows, 5, (6, ("share", 1), rows[5][2])),
        ):
            self.assert_why("cleaning", corpus=replaced(CORPUS, cleaned=cleaned))

    def test_one_fate_for_each_document(self):
        for fates in ([], PAPER[0][1:], PAPER[0][:-1], PAPER[0] + [("kept",)]):
            self.assert_why("cleaning", fates=fates)

    def test_fates_that_tell_reasons(self):
        self.assert_fates("cleaning", 4, ("short", 0), ("short", 2), ("short", -1), ("share", 0, 1), ("share", 0, 0))
        self.assert_fates("cleaning", 5, ("share", 0, 1), ("share", 0, 3), ("share", 1, 2), ("share", -1, 2),
                          ("short", 4), ("short", 2))

    def test_a_reason_for_a_document_that_is_not_dropped(self):
        for at in (0, 1, 3, 6):
            self.assert_fates("cleaning", at, ("short", 4), ("short", 1), ("share", 0, 0), ("share", 0, 2))

    def test_no_reason_for_a_dropped_document(self):
        for at in (4, 5):
            self.assert_fates("cleaning", at, ("nothing",), ("kept",), ("chain", [5, 1]), ("chain", []))

    def test_fates_of_no_kind(self):
        for at in range(7):
            self.assert_fates(
                "cleaning", at, ("lost",), (), ("",), ("short",), ("share",), ("share", 0), ("chain",), ("kept", 1),
                ("nothing", 0), ("dropped", ("short",)), ("chain", [1], 1), ("chain", 1), ("duplicate", 1),
                ("share", 0, 2, 0), ("short", 1, 0),
            )

    def test_the_certificate_of_other_contents(self):
        other = make_contents([(1, 0, "a b c")])
        self.assert_why("cleaning", contents=other)
        corpus = make_corpus(other)
        fates, covers, gains = certificate(other, corpus)
        self.assert_why("cleaning", fates=fates, covers=covers, gains=gains)
        self.assert_why("cleaning", corpus=corpus)

    # Condition 2

    def test_phrases(self):
        rows = CORPUS.phrases
        self.assertEqual(rows, [["x", "y"], ["y", "x"], ["z", "x"], ["x", "y"]])
        for phrases in (
            [], rows[1:], rows[:-1], rows + [["x", "y"]], [rows[1], rows[0]] + rows[2:],
            swapped(rows, 2, ["z", "y"]), swapped(rows, 2, ["z"]), rows + [[]],
        ):
            self.assert_why("phrases", corpus=replaced(CORPUS, phrases=phrases))

    # Condition 3

    def test_one_list_of_covers_for_each_open_document(self):
        for covers in ([], PAPER[1][1:], PAPER[1][:-1], PAPER[1] + [[]], PAPER[1] + [[None]], PAPER[1][::-1]):
            self.assert_why("pieces", covers=covers)

    def test_one_entry_for_each_word(self):
        for at, cover in enumerate(PAPER[1]):
            for other in ([], cover[1:], cover[:-1], cover + [None], cover + [(0, 0, 0)], cover[:1] + cover):
                self.assert_why("pieces", covers=swapped(PAPER[1], at, other))

    def covers_with(self, told, at=4):
        return swapped(PAPER[1], 0, swapped(PAPER[1][0], at, told))

    def test_entries_that_are_right(self):
        # In a b c d x y x g the phrase x y stands at 4, as phrase 0 of text 0 and phrase 1 of text 1, y x at 5.
        self.assertEqual(PAPER[1][0], [None] * 4 + [(0, 0, 4), (0, 0, 4), (0, 1, 5), None])
        for at, told in ((4, (1, 1, 4)), (5, (1, 1, 4)), (5, (0, 1, 5))):
            self.assert_why(None, covers=self.covers_with(told, at))

    def test_entries_that_are_wrong(self):
        for at, rows in (
            (4, [(0, 1, 5), (0, 1, 4), (1, 0, 4), (0, 0, 3), (0, 0, 5), (0, 0, -4), (0, -3, 4), (-2, 0, 4), (-1, 1, 4),
                 (2, 0, 4), (0, 2, 4), (0, 3, 4), (1, 2, 4), (0, 0, 10 ** 20), (10 ** 20, 0, 4), (0, 10 ** 20, 4)]),
            (6, [(0, 0, 4), (1, 1, 4), (0, 1, 6), (0, 1, 4), (0, 0, 6)]),
            (7, [(0, 0, 4), (0, 1, 5), (0, 0, 6), (0, 0, 7), (0, 1, 7), (1, 0, 6)]),
            (0, [(0, 0, 0), (0, 0, -8), (0, 0, 4), (0, 1, 5), (-1, -1, -1)]),
        ):
            for told in rows:
                self.assert_why("pieces", covers=self.covers_with(told, at))

    def test_no_entry_for_a_covered_word(self):
        for at in (4, 5, 6):
            self.assert_why("pieces", covers=self.covers_with(None, at))

    def test_entries_of_other_lengths(self):
        for told in ((), (0, 0), (0, 0, 4, 4), (0,)):
            self.assert_why("pieces", covers=self.covers_with(told))

    def test_a_part_of_a_phrase_at_both_ends(self):
        # The last word of document 4 is also the last one of the first exam text.
        self.assertEqual(PAPER[1][3], [(0, 0, 0), (0, 0, 0), (0, 1, 1)])
        self.assert_why("pieces", covers=swapped(PAPER[1], 3, swapped(PAPER[1][3], 2, (0, 2, 2))))

    def test_a_phrase_that_was_not_cut(self):
        # All the rest is as if there were no exam texts; only the entries None of covered words are wrong.
        contents = make_contents([(1, 0, "a x y b")], ["x y"])
        uncut = make_contents([(1, 0, "a x y b")])
        corpus = replaced(make_corpus(uncut), phrases=[["x", "y"]])
        fates, covers, gains = certificate(uncut, corpus)
        self.assert_why("pieces", contents=contents, corpus=corpus, fates=fates, covers=covers, gains=gains)

    def test_words_that_were_cut_without_a_phrase(self):
        contents = make_contents([(1, 0, "a x y b")])
        cut = make_contents([(1, 0, "a x y b")], ["x y"])
        corpus = replaced(make_corpus(cut), phrases=[])
        fates, covers, gains = certificate(cut, corpus)
        self.assert_why("pieces", contents=contents, corpus=corpus, fates=fates, covers=covers, gains=gains)

    def test_pieces(self):
        rows = CORPUS.pieces
        for pieces in (
            [], rows[1:], rows[::-1], swapped(rows, 0, (1, [])), swapped(rows, 0, (1, rows[0][1][:1])),
            swapped(rows, 0, (1, [(0, ["a", "b"]), (2, ["c", "d"]), (7, ["g"])])), rows + [(5, [])],
            swapped(rows, 0, (1, [(1, ["a", "b", "c", "d"]), (7, ["g"])])), swapped(rows, 3, (4, [(0, ["x"])])),
            swapped(rows, 1, (2, [(0, ["b", "c", "d"])])),
        ):
            self.assert_why("pieces", corpus=replaced(CORPUS, pieces=pieces))

    def test_left(self):
        rows = CORPUS.left
        self.assertEqual([number for number, _ in rows], [1, 2, 3, 9])
        for left in (
            [], rows[1:], rows[:-1], rows[::-1], rows + [(10, [["a"]])], rows[:3] + [(4, [])] + rows[3:],
            swapped(rows, 0, (1, [["a", "b", "c", "d"]])), swapped(rows, 0, (1, [["g"], ["a", "b", "c", "d"]])),
            swapped(rows, 1, (1, rows[1][1])), swapped(rows, 1, (2, [["b", "c"], ["d", "e"]])),
        ):
            self.assert_why("pieces", corpus=replaced(CORPUS, left=left))

    # Condition 4

    def test_kept_for(self):
        self.assertEqual(CORPUS.kept_for, [(1, 1), (2, 1), (3, 1), (9, 9)])
        for kept_for in (
            [], [(1, 1)], [(1, 1), (2, 1), (3, 1)], [(1, 1), (2, 1), (3, 1), (9, 9), (10, 9)],
            [(1, 1), (2, 1), (9, 9), (3, 1)], [(1, 1), (2, 1), (2, 1), (3, 1), (9, 9)],
            [(9, 9), (3, 1), (2, 1), (1, 1)],
            [(1, 1), (2, 2), (3, 1), (9, 9)], [(1, 2), (2, 2), (3, 2), (9, 9)], [(1, 1), (2, 1), (3, 3), (9, 9)],
            [(1, 1), (2, 1), (3, 2), (9, 9)], [(1, 0), (2, 0), (3, 0), (9, 9)], [(1, 1), (2, 1), (3, 1), (9, 1)],
            [(1, 1), (2, 1), (3, 1), (9, 10)], [(1, 1), (2, 1), (3, 1), (8, 8)], [(1, 1), (2, 1), (4, 1), (9, 9)],
            [(1, 1), (2, 1), (3, 1), (9, -1)], [(1, 1), (2, 1), (3, 1), (9, 4)], [(1, 1), (2, 1), (3, 1), (9, 5)],
        ):
            self.assert_why("duplicates", corpus=replaced(CORPUS, kept_for=kept_for))

    def test_a_kept_document_with_a_greater_id(self):
        contents = make_contents([(1, 0, "a b c"), (2, 0, "a b c")])
        corpus = replaced(make_corpus(contents), kept_for=[(1, 2), (2, 2)])
        paper = ([("chain", [1, 2]), ("kept",)], [[None] * 3] * 2, [])
        self.assertEqual(why_not(contents, corpus, paper), "duplicates")

    def test_a_class_that_is_divided(self):
        # Each document tells a true fate by the fields, but alike documents have different kept ones.
        corpus = replaced(CORPUS, kept_for=[(1, 1), (2, 2), (3, 2), (9, 9)])
        self.assert_why("duplicates", corpus=corpus,
                        fates=[("kept",), ("kept",), ("chain", [3, 2])] + PAPER[0][3:])

    def test_classes_that_are_joined(self):
        corpus = replaced(CORPUS, kept_for=[(1, 1), (2, 1), (3, 1), (9, 1)])
        for ids in ([9, 1], [9, 9, 1], [9, 3, 2, 1]):
            self.assert_why("duplicates", corpus=corpus, fates=swapped(PAPER[0], 6, ("chain", ids)))

    def test_fates_of_the_wrong_kind(self):
        self.assert_fates("duplicates", 0, ("nothing",), ("chain", [1]), ("chain", [1, 1]), ("chain", [1, 2, 1]),
                          ("chain", [1, 2]))
        self.assert_fates("duplicates", 1, ("nothing",), ("kept",))
        self.assert_fates("duplicates", 3, ("kept",), ("chain", [4]), ("chain", [4, 1]), ("chain", []))
        self.assert_fates("duplicates", 6, ("nothing",), ("chain", [9]), ("chain", [9, 9]), ("chain", [9, 1]))

    def test_chains_that_are_right(self):
        self.assert_fates(None, 1, ("chain", [2, 1]), ("chain", [2, 2, 1]), ("chain", [2, 3, 2, 1]),
                          ("chain", [2, 1, 2, 1]), ("chain", [2, 1, 1]))
        self.assert_fates(None, 2, ("chain", [3, 2, 1]), ("chain", [3, 3, 2, 2, 1, 1]))

    def test_chains_that_are_wrong(self):
        self.assert_fates(
            "duplicates", 2, ("chain", []), ("chain", [3]), ("chain", [1]), ("chain", [3, 1]), ("chain", [2, 1]),
            ("chain", [1, 2, 3]), ("chain", [3, 2]), ("chain", [3, 2, 1, 2]), ("chain", [3, 9, 2, 1]),
            ("chain", [3, 2, 9, 1]), ("chain", [3, 4, 2, 1]), ("chain", [3, 5, 1]), ("chain", [3, 7, 7, 1]),
            ("chain", [3, 2, 2, 0]), ("chain", [3, -1, 1]), ("chain", [-3, 2, 1]), ("chain", [3, 10 ** 20, 1]),
            ("chain", [3, 2, 0, 0, 1]),
        )

    def test_chains_of_documents_that_are_not_left(self):
        # 4 and 5 are no documents of `left`, and so alike to nothing, not even to themselves.
        self.assert_fates("duplicates", 2, ("chain", [3, 4, 4, 1]), ("chain", [3, 2, 5, 2, 1]))

    # Condition 5

    def test_published(self):
        rows = CORPUS.published
        self.assertEqual([row[:3] for row in rows], [(1, 0, 0), (1, 0, 7), (9, 1, 0), (9, 1, 6), (9, 1, 9)])
        for published in (
            [], rows[1:], rows[:-1], rows[::-1], rows + rows[-1:], swapped(rows, 0, (1, 1, 0, rows[0][3])),
            swapped(rows, 0, (1, 0, 1, rows[0][3])), swapped(rows, 0, (2, 0, 0, rows[0][3])),
            swapped(rows, 0, (1, 0, 0, ["a", "b", "c"])), swapped(rows, 0, (1, 0, 0, [])),
            [rows[1], rows[0]] + rows[2:],
            rows[:2] + [(2, 1, 0, ["b", "c", "d", "e"])] + rows[2:],
        ):
            self.assert_why("published", corpus=replaced(CORPUS, published=published))

    # Condition 6

    def test_the_number_of_gains(self):
        for gains in ([], PAPER[2][:-1], PAPER[2] + [2], PAPER[2] + [0]):
            self.assert_why("joins", gains=gains)

    def test_wrong_gains(self):
        for at in range(3):
            for gain in (PAPER[2][at] - 1, PAPER[2][at] + 1, 0, 1, 2, -PAPER[2][at], 10 ** 20):
                if gain != PAPER[2][at]:
                    self.assert_why("joins", gains=swapped(PAPER[2], at, gain))

    def test_joins(self):
        self.assertEqual(CORPUS.joins, [(110, 113), (121, 34), (200, 201)])
        for joins in (
            [(121, 34), (110, 113), (200, 201)], [(110, 113), (200, 201), (121, 34)], [(113, 110)] + CORPUS.joins[1:],
            [(113, 121)] + CORPUS.joins[1:], CORPUS.joins[:2] + [(999, -1)], CORPUS.joins[:2] + [(202, 202)],
            [(-5, 0)] + CORPUS.joins[1:], CORPUS.joins[:2] + [(99, 34)],
        ):
            self.assert_why("joins", corpus=replaced(CORPUS, joins=joins))

    def test_too_many_joins(self):
        corpus = replaced(CORPUS, joins=CORPUS.joins + [(117, 202)])
        for gains in (PAPER[2], PAPER[2] + [1], PAPER[2] + [2]):
            self.assert_why("joins", corpus=corpus, gains=gains)

    def test_more_joins_than_the_limit_though_they_are_good(self):
        one, two = [make_contents([(1, 0, "low low low")], joins=f"joins {limit};") for limit in (1, 2)]
        self.assert_why("joins", contents=one, corpus=make_corpus(two), fates=[("kept",)], covers=[[None] * 3],
                        gains=[3, 3])

    def test_too_few_joins(self):
        for many in range(3):
            corpus = replaced(CORPUS, joins=CORPUS.joins[:many])
            self.assert_why("joins", corpus=corpus, gains=PAPER[2][:many])

    def test_too_few_joins_by_a_gain_above_two(self):
        # After no join at all the pairs have the gain 4 or 1, none of them just 2.
        contents = make_contents([(1, 0, "ab ab ab ab")], joins="joins 5;")
        corpus = replaced(make_corpus(contents), joins=[])
        self.assert_why("joins", contents=contents, corpus=corpus, fates=[("kept",)], covers=[[None] * 4], gains=[])

    def test_too_few_joins_by_a_gain_of_just_two(self):
        contents = make_contents([(1, 0, "ab ab")], joins="joins 1;")
        corpus = replaced(make_corpus(contents), joins=[])
        self.assert_why("joins", contents=contents, corpus=corpus, fates=[("kept",)], covers=[[None] * 2], gains=[])

    def test_a_join_of_a_gain_below_two(self):
        contents = make_contents([(1, 0, "ab")], joins="joins 1;")
        corpus = make_corpus(contents)
        self.assertEqual(corpus.joins, [])
        self.assert_why(None, contents=contents, corpus=corpus, fates=[("kept",)], covers=[[None]], gains=[])
        for join, gain in (((99, 100), 1), ((5, 6), 0)):
            self.assert_why("joins", contents=contents, corpus=replaced(corpus, joins=[join]), fates=[("kept",)],
                            covers=[[None]], gains=[gain])

    def test_a_lesser_pair_with_the_same_gain(self):
        # Both pairs of ab have the gain 2; (99, 100) is the lesser one.
        contents = make_contents([(1, 0, "ab ab")], joins="joins 1;")
        for join, wanted in (((99, 100), None), ((100, 34), "joins")):
            corpus = make_corpus(contents)
            joins = [join]
            damaged = replaced(corpus, joins=joins)
            self.assert_why(wanted, contents=contents, corpus=damaged, fates=[("kept",)], covers=[[None] * 2],
                            gains=[2])

    # Condition 7

    def test_phases(self):
        first, second = CORPUS.phases
        for phases in (
            [], [first], [second], [second, first], [first, second, []], [[], first, second], [first + second],
            [first[:-1], [first[-1]] + second], [first + second[:1], second[1:]], [first, second + second[:1]],
            [first[::-1], second], [[0] + first[1:], second], [first, [1] * len(second)], [[2] + first, second],
            [first, second, [2]], [first, second, [-1]], [[-2] + first[1:], second], [[7] + first, second],
            [first, second[:-1], second[-1:]], [first[:4], first[4:], second], [first, second, second],
            [[-3] + first, second], [[10 ** 20] + first, second],
        ):
            self.assert_why("pages", corpus=replaced(CORPUS, phases=phases))

    def test_each_order_of_the_first_phase(self):
        first, second = CORPUS.phases
        for at in range(len(first) - 1):
            if first[at] != first[at + 1]:
                phase = first[:at] + [first[at + 1], first[at]] + first[at + 2:]
                self.assert_why("pages", corpus=replaced(CORPUS, phases=[phase, second]))

    def assert_refused_order(self, corpus, contents, paper, phases):
        """Check that phases are refused even if the pages stand in this order."""
        filled = {}
        for source, codes in corpus.pages:
            filled.setdefault(source, []).append(codes)
        pages = [(source, filled[source].pop(0)) for phase in phases for source in phase]
        self.assertEqual(sum(map(len, filled.values())), 0)
        damaged = replaced(corpus, phases=phases, pages=pages)
        self.assertEqual(why_not(contents, damaged, paper), "pages")

    def test_other_orders_with_the_pages_to_match(self):
        first, second = CORPUS.phases
        for at in range(len(first) - 1):
            if first[at] != first[at + 1]:
                phase = first[:at] + [first[at + 1], first[at]] + first[at + 2:]
                self.assert_refused_order(CORPUS, CONTENTS, PAPER, [phase, second])
        for phases in (
            [second, first], [first + second], [first[:-1], first[-1:] + second], [first + second[:1], second[1:]],
            [first, second, []], [[], first, second], [first, [], second], [first, second[:1], second[1:]],
            [first[:5], first[5:], second], [sorted(first), second],
        ):
            self.assert_refused_order(CORPUS, CONTENTS, PAPER, phases)

    def test_all_other_orders_of_a_few_pages(self):
        contents = make_contents([(1, 0, "a b c"), (2, 1, "d e"), (3, 2, "f")], sources="sources s 3, t 2, u 1;",
                                 pages="pages 3;", joins="joins 0;")
        corpus = make_corpus(contents)
        self.assertEqual(corpus.phases, [[0, 1, 0, 1], [0], [2]])
        paper = certificate(contents, corpus)
        row = sum(corpus.phases, [])
        for order in sorted(set(itertools.permutations(row))):
            for many in range(len(row)):
                for ends in itertools.combinations(range(1, len(row)), many):
                    bounds = [0, *ends, len(row)]
                    phases = [list(order[start:end]) for start, end in zip(bounds, bounds[1:])]
                    if phases != corpus.phases:
                        self.assert_refused_order(corpus, contents, paper, phases)

    def test_pages(self):
        rows = CORPUS.pages
        for pages in (
            [], rows[1:], rows[:-1], rows + rows[-1:], rows[::-1], swapped(rows, 0, (0, rows[0][1])),
            swapped(rows, 0, (1, [0] + rows[0][1][1:])), swapped(rows, 0, (1, rows[0][1][:-1])),
            swapped(rows, -1, (rows[-1][0], rows[-1][1] + [0])),
        ):
            self.assert_why("pages", corpus=replaced(CORPUS, pages=pages))

    # The order of the conditions

    def test_the_first_of_several_is_told(self):
        damages = [
            {"cleaned": []}, {"phrases": []}, {"pieces": []}, {"kept_for": []}, {"published": []}, {"joins": []},
            {"pages": []},
        ]
        for at, name in enumerate(NAMES):
            changed = {}
            for damage in damages[at:]:
                changed.update(damage)
            self.assert_why(name, corpus=replaced(CORPUS, **changed))
            self.assert_why(name, corpus=replaced(CORPUS, **damages[at]))

    def test_the_first_fault_of_a_certificate_is_told(self):
        wrong_fates = swapped(PAPER[0], 0, ("lost",))
        wrong_chain = swapped(PAPER[0], 1, ("chain", []))
        self.assert_why("cleaning", fates=wrong_fates, covers=[], gains=[])
        self.assert_why("pieces", fates=wrong_chain, covers=[], gains=[])
        self.assert_why("duplicates", fates=wrong_chain, gains=[])
        self.assert_why("phrases", corpus=replaced(CORPUS, phrases=[]), fates=wrong_chain, covers=[], gains=[])


class RandomTest(unittest.TestCase):
    def test_the_certificate_of_the_corpus_of_contents_is_accepted(self):
        source = random.Random(48)
        for _ in range(300):
            contents = random_contents(source)
            corpus = make_corpus(contents)
            paper = certificate(contents, corpus)
            self.assertIsNone(why_not(contents, corpus, paper))
            self.assertIsNone(plain_why_not(contents, corpus, paper))

    def damaged_cases(self, seed, many):
        """Return tuples (contents, corpus, paper): damaged corpora, certificates, or both."""
        source = random.Random(seed)
        others = []
        for _ in range(many):
            contents = random_contents(source)
            corpus = make_corpus(contents)
            paper = certificate(contents, corpus)
            others.append(paper)
            for _ in range(25):
                damaged = copy.deepcopy(corpus)
                if source.randrange(3):
                    name = source.choice(CORPUS_FIELDS)
                    setattr(damaged, name, mutated(source, getattr(damaged, name)))
                told = copy.deepcopy(paper)
                if source.randrange(3) == 0:
                    at = source.randrange(3)
                    told = told[:at] + (mutated(source, told[at]),) + told[at + 1:]
                elif source.randrange(10) == 0:
                    told = source.choice(others)
                yield contents, damaged, told

    def test_damaged_corpora_and_certificates(self):
        seen = {}
        for contents, corpus, paper in self.damaged_cases(49, 150):
            why = why_not(contents, corpus, paper)
            self.assertIs(accepts(contents, corpus, paper), why is None)
            self.assertEqual(why, plain_why_not(contents, corpus, paper))
            # An accepted corpus is that of the contents, whichever certificate it has.
            if why is None:
                self.assertEqual(corpus_fields(corpus), plain_corpus(contents))
            seen[why] = seen.get(why, 0) + 1
        self.assertEqual(sorted(name for name in seen if name), sorted(NAMES))
        self.assertGreater(min(seen.values()), 10)

    def test_the_corpus_of_other_contents(self):
        source = random.Random(50)
        for _ in range(150):
            contents, other = random_contents(source), random_contents(source)
            corpus = make_corpus(other)
            same = corpus_fields(corpus) == plain_corpus(contents)
            self.assertIs(accepts(contents, corpus, certificate(other, corpus)), same)
            self.assertIsNotNone(why_not(contents, replaced(corpus, pages=corpus.pages + [(0, [])]),
                                         certificate(other, corpus)))


class SpeedTest(unittest.TestCase):
    def test_at_the_bounds(self):
        source = random.Random(51)
        for phrases, runs in ((20, 20), (2, 1), (3, 5)):
            documents = [
                (number, number % 4, "".join(source.choice("cdefghab ") for _ in range(400))) for number in range(24)
            ]
            changes = " ".join(f'change "{char}" to "{char} {char} b x";' for char in "cdef")
            contents = make_contents(
                documents, ["".join(source.choice("cdefgh") for _ in range(200)) for _ in range(6)],
                sources="sources s 1, t 100, u 7, v 9;", changes=changes, phrases=f"phrases {phrases};",
                joins="joins 30;", pages="pages 1;", alike=f"alike 1 of 50, runs of {runs};",
            )
            corpus = make_corpus(contents)
            begin = time.perf_counter()
            paper = certificate(contents, corpus)
            self.assertIsNone(why_not(contents, corpus, paper))
            self.assertLess(time.perf_counter() - begin, 6)


if __name__ == "__main__":
    unittest.main()
