"""[k1] the corpus of contents, step by step, and the volumes of its pages."""

import copy
import itertools
import random
import time
import unittest

from corpuskeep.corpora import Contents, Corpus, exam_lists, make_corpus, stream, volumes
from corpuskeep.errors import RulesFault
from corpuskeep.grammar import parse_rules
from corpuskeep.volumes import read_volume
from tests.plain import plain_corpus, plain_streams
from tests.samples import (
    CORPUS_FIELDS, corpus_fields, fields, frozen, make_contents, random_contents, rules_text, spoil,
)


def corpus_of(documents, exams=(), /, **changed):
    return make_corpus(make_contents(documents, exams, **changed))


class ContentsTest(unittest.TestCase):
    TEXT = rules_text(sources="sources a 1, b 2;")

    def test_fields(self):
        contents = Contents(self.TEXT, [(1, 0, "x"), (7, 1, "")], ["e", ""])
        self.assertEqual(contents.rules_text, self.TEXT)
        self.assertEqual(contents.documents, [(1, 0, "x"), (7, 1, "")])
        self.assertEqual(contents.exams, ["e", ""])
        self.assertEqual(fields(contents.rules), fields(parse_rules(self.TEXT)))

    def test_the_rules_that_are_passed(self):
        rules = parse_rules(self.TEXT)
        self.assertIs(Contents(self.TEXT, [], [], rules).rules, rules)
        self.assertIs(Contents(self.TEXT, [], [], rules=rules).rules, rules)
        self.assertEqual(fields(Contents(self.TEXT, [], [], None).rules), fields(rules))

    def test_lists_are_copied(self):
        documents = [(1, 0, "x")]
        exams = ["e"]
        contents = Contents(self.TEXT, documents, exams)
        documents.append((2, 0, "y"))
        exams.clear()
        self.assertEqual(contents.documents, [(1, 0, "x")])
        self.assertEqual(contents.exams, ["e"])

    def test_rules_with_a_fault(self):
        self.assertRaises(RulesFault, Contents, "sources a 0;", [], [])

    def test_limits_are_not_asked_for(self):
        self.assertEqual(make_contents([], joins="joins 31;").rules.join_limit, 31)


class StepsTest(unittest.TestCase):
    def test_a_line_that_only_cleaning_cuts(self):
        corpus = corpus_of([(3, 0, "a b c\nx ad\nd e f")], banned='ban "ad";')
        self.assertEqual(corpus.cleaned, [(3, None, ["a", "b", "c", "d", "e", "f"])])
        self.assertEqual(corpus.published, [(3, 0, 0, ["a", "b", "c", "d", "e", "f"])])

    def test_a_document_that_only_cleaning_drops(self):
        corpus = corpus_of([(3, 0, "a b"), (4, 0, "c d e"), (5, 0, "7 f g h")], documents="documents least 3;",
                           shares="share digit: 1 of 5;")
        self.assertEqual(corpus.cleaned, [
            (3, ("short",), ["a", "b"]), (4, None, ["c", "d", "e"]), (5, ("share", 0), ["7", "f", "g", "h"]),
        ])
        for rows in (corpus.pieces, corpus.left, corpus.kept_for, corpus.published):
            self.assertEqual([row[0] for row in rows], [4])

    def test_changes_and_hidden_words(self):
        contents = make_contents(
            [(3, 0, "Ab 12 c")], ["A 7 c"], changes='change "A" to "a";', hidden="hide digit 1 to 4;",
            phrases="phrases 3;",
        )
        self.assertEqual(exam_lists(contents), [["a", "#", "c"]])
        self.assertEqual(make_corpus(contents).cleaned, [(3, None, ["ab", "#", "c"])])
        self.assertEqual(make_corpus(contents).phrases, [["a", "#", "c"]])

    def test_words_that_only_a_phrase_cuts(self):
        corpus = corpus_of([(3, 0, "a b x y c d"), (4, 0, "x y"), (9, 0, "y x")], ["x y"])
        self.assertEqual(corpus.phrases, [["x", "y"]])
        self.assertEqual(corpus.pieces, [(3, [(0, ["a", "b"]), (4, ["c", "d"])]), (4, []), (9, [(0, ["y", "x"])])])
        self.assertEqual(corpus.left, [(3, [["a", "b"], ["c", "d"]]), (9, [["y", "x"]])])
        self.assertEqual(corpus.kept_for, [(3, 3), (9, 9)])
        self.assertEqual(corpus.published, [(3, 0, 0, ["a", "b"]), (3, 0, 4, ["c", "d"]), (9, 0, 0, ["y", "x"])])

    def test_phrases_with_order_and_repetitions(self):
        corpus = corpus_of([], ["a b a b", "c", "", "b a b"], phrases="phrases 2;")
        self.assertEqual(corpus.phrases, [
            ["a", "b"], ["b", "a"], ["a", "b"], ["b", "a"], ["a", "b"],
        ])

    def test_piece_words_just_met_and_just_missed(self):
        for least, left in (
            (1, [["a", "b", "c"], ["d", "e"]]), (2, [["a", "b", "c"], ["d", "e"]]), (3, [["a", "b", "c"]]), (4, []),
        ):
            corpus = corpus_of([(3, 0, "a b c x y d e")], ["x y"], pieces=f"pieces least {least};")
            self.assertEqual(corpus.pieces, [(3, [(0, ["a", "b", "c"]), (5, ["d", "e"])])])
            self.assertEqual(corpus.left, [(3, left)] if left else [])
            self.assertEqual(corpus.kept_for, [(3, 3)] if left else [])
            self.assertEqual([words for _, _, _, words in corpus.published], left)

    def test_documents_that_only_likeness_drops(self):
        corpus = corpus_of([(3, 0, "a b c d"), (5, 1, "a b c d"), (8, 0, "q r s")], sources="sources a 1, b 1;")
        self.assertEqual([number for number, _ in corpus.left], [3, 5, 8])
        self.assertEqual(corpus.kept_for, [(3, 3), (5, 3), (8, 8)])
        self.assertEqual([row[:2] for row in corpus.published], [(3, 0), (8, 0)])

    def test_documents_are_compared_by_their_long_pieces_only(self):
        texts = [(1, 0, "a b c x y d"), (2, 0, "a b c x y e"), (3, 0, "a b c")]
        alike = "alike 1 of 1, runs of 2;"
        self.assertEqual(corpus_of(texts, ["x y"], alike=alike).kept_for, [(1, 1), (2, 2), (3, 3)])
        corpus = corpus_of(texts, ["x y"], alike=alike, pieces="pieces least 2;")
        self.assertEqual(corpus.kept_for, [(1, 1), (2, 1), (3, 1)])

    def test_a_dropped_document_has_no_duplicates(self):
        changed = {"shares": "share digit: 0 of 1;", "hidden": "hide digit 2;", "alike": "alike 1 of 2, runs of 1;"}
        corpus = corpus_of([(1, 0, "a b c 7"), (2, 0, "a b c 77")], **changed)
        self.assertEqual(corpus.kept_for, [(2, 2)])

    def test_the_joins_are_those_of_published_words_only(self):
        documents = [(1, 0, "zz zz zz"), (2, 0, "qq qq"), (3, 0, "qq qq qq qq qq"), (4, 0, "a b")]
        corpus = corpus_of(documents, ["qq qq"], joins="joins 9;")
        self.assertEqual([number for number, _, _, _ in corpus.published], [1, 4])
        self.assertEqual(corpus.joins, [(124, 34), (124, 200)])
        self.assertEqual(corpus_of(documents, ["qq qq"], joins="joins 1;").joins, [(124, 34)])
        self.assertEqual(corpus_of(documents, ["qq qq"], joins="joins 0;").joins, [])

    def test_streams_and_pages(self):
        contents = make_contents(
            [(1, 0, "ab c"), (2, 1, "d"), (3, 0, "e")], sources="sources s 1, t 1, u 9;", pages="pages 4;",
            joins="joins 0;",
        )
        corpus = make_corpus(contents)
        self.assertEqual(stream(corpus, 0), [99, 100, 34, 101, 34, 1, 103, 34, 1])
        self.assertEqual(stream(corpus, 1), [102, 34, 1])
        self.assertEqual(stream(corpus, 2), [])
        self.assertEqual(corpus.phases, [[0, 1], [0, 0]])
        self.assertEqual(corpus.pages, [
            (0, [99, 100, 34, 101]), (1, [102, 34, 1, 0]), (0, [34, 1, 103, 34]), (0, [1, 0, 0, 0]),
        ])

    def test_a_stream_ends_each_piece(self):
        corpus = corpus_of([(1, 0, "a x y b")], ["x y"])
        self.assertEqual(stream(corpus, 0), [99, 34, 1, 100, 34, 1])

    def test_a_document_with_nothing_left(self):
        corpus = corpus_of([(2, 0, "x y")], ["x y"])
        self.assertEqual(corpus.cleaned, [(2, None, ["x", "y"])])
        self.assertEqual(corpus.pieces, [(2, [])])
        for rows in (corpus.left, corpus.kept_for, corpus.published, corpus.joins, corpus.phases, corpus.pages):
            self.assertEqual(rows, [])

    def test_no_exam_texts(self):
        contents = make_contents([(2, 0, "x y")])
        self.assertEqual(exam_lists(contents), [])
        corpus = make_corpus(contents)
        self.assertEqual(corpus.phrases, [])
        self.assertEqual(corpus.pieces, [(2, [(0, ["x", "y"])])])

    def test_no_documents(self):
        corpus = corpus_of([], ["a b"])
        self.assertEqual(corpus_fields(corpus), {**{name: [] for name in CORPUS_FIELDS}, "phrases": [["a", "b"]]})

    def test_random_contents_against_the_definitions(self):
        source = random.Random(24)
        kept = 0
        for _ in range(400):
            contents = random_contents(source)
            corpus = make_corpus(contents)
            wanted = plain_corpus(contents)
            for name in CORPUS_FIELDS:
                self.assertEqual(getattr(corpus, name), wanted[name], (name, contents.rules_text))
            streams = plain_streams(contents.rules, wanted["published"], wanted["joins"])
            for at, codes in enumerate(streams):
                self.assertEqual(stream(corpus, at), codes)
            kept += len(corpus.pages)
        self.assertGreater(kept, 1000)


class KindsTest(unittest.TestCase):
    CONTENTS = make_contents(
        [(1, 0, "a b c d x y e f g"), (2, 1, "a b c d x y e f g"), (3, 0, "q"), (4, 1, "h i a b j k"), (6, 0, "7 7 7")],
        ["x y z", "w"], sources="sources s 1, t 2;", documents="documents least 2;", joins="joins 3;",
        shares="share digit: 1 of 2;",
    )

    def test_just_the_fields(self):
        self.assertEqual(sorted(vars(make_corpus(self.CONTENTS))), sorted(CORPUS_FIELDS))

    def test_kinds_of_values(self):
        corpus = make_corpus(self.CONTENTS)
        self.assertIs(type(corpus), Corpus)
        for name, rows in corpus_fields(corpus).items():
            self.assertIs(type(rows), list)
            self.assertGreater(len(rows), 0, name)
            wanted = list if name in ("phrases", "phases") else tuple
            self.assertEqual({type(row) for row in rows}, {wanted}, name)
        for name, kinds in (
            ("left", [int, list]), ("kept_for", [int, int]), ("published", [int, int, int, list]),
            ("pieces", [int, list]), ("joins", [int, int]), ("pages", [int, list]),
        ):
            for row in getattr(corpus, name):
                self.assertEqual([type(part) for part in row], kinds, name)
        for number, reason, words in corpus.cleaned:
            self.assertIn(type(reason), (tuple, type(None)))
            self.assertEqual([type(number), type(words)], [int, list])
        for _, own in corpus.pieces:
            for piece in own:
                self.assertEqual([type(part) for part in piece], [int, list])
                self.assertIs(type(piece), tuple)

    def test_no_two_fields_share_a_list(self):
        corpus = make_corpus(self.CONTENTS)
        seen = []

        def gather(value):
            if isinstance(value, (list, tuple)):
                for part in value:
                    gather(part)
            if isinstance(value, list):
                seen.append(value)

        for rows in corpus_fields(corpus).values():
            gather(rows)
        self.assertEqual(len({id(part) for part in seen}), len(seen))

    def test_arguments_stay_and_answers_are_new(self):
        before = frozen(self.CONTENTS)
        wanted = frozen(make_corpus(self.CONTENTS))
        spoil(make_corpus(self.CONTENTS))
        self.assertEqual(frozen(self.CONTENTS), before)
        self.assertEqual(frozen(make_corpus(self.CONTENTS)), wanted)
        contents = copy.deepcopy(self.CONTENTS)
        corpus = make_corpus(contents)
        spoil(contents)
        self.assertEqual(frozen(corpus), wanted)


class VolumesTest(unittest.TestCase):
    def volumes_of(self, many, size):
        """Return the contents, the corpus and the volumes of a book with so many pages of three codes."""
        words = " ".join("abcdefghijklmnopqrstuvwxyz"[:many])
        contents = make_contents([(1, 0, words)] if many else [], joins="joins 0;", pages="pages 2;",
                                 volumes=f"volumes {size};")
        corpus = make_corpus(contents)
        return corpus, volumes(contents, corpus)

    def test_no_pages(self):
        self.assertEqual(self.volumes_of(0, 4)[1], [])

    def test_full_volumes_and_rests(self):
        for many, size in itertools.product(range(1, 10), range(1, 6)):
            corpus, found = self.volumes_of(many, size)
            # Each word fills a page, the end of the piece stands on one more.
            self.assertEqual(len(corpus.pages), many + 1)
            self.assertEqual(len(found), -(-(many + 1) // size))
            sizes = [len(read_volume(data)) for data in found]
            self.assertEqual(sizes[:-1], [size] * (len(found) - 1))
            self.assertEqual([page for data in found for page in read_volume(data)], corpus.pages)

    def test_volumes_are_lists_of_bytes(self):
        corpus, found = self.volumes_of(2, 2)
        self.assertEqual(found[0][:9], [2, 0, 2, 99, 34, 0, 2, 100, 34])
        self.assertEqual(found[1][:5], [1, 0, 2, 1, 0])
        self.assertEqual({type(data) for data in found}, {list})


class SpeedTest(unittest.TestCase):
    def test_at_the_bounds(self):
        source = random.Random(25)
        documents = [
            (number, number % 4, "".join(source.choice("cdefghab ") for _ in range(400))) for number in range(24)
        ]
        changes = " ".join(f'change "{char}" to "{char} {char} b x";' for char in "cdefgh")
        for phrases in (1, 4, 20):
            contents = make_contents(
                documents, ["".join(source.choice("cdefgh") for _ in range(200)) for _ in range(6)],
                sources="sources s 1, t 100, u 7, v 9;", changes=changes, phrases=f"phrases {phrases};",
                joins="joins 30;", pages="pages 1;", volumes="volumes 16;", alike="alike 1 of 3, runs of 20;",
            )
            begin = time.perf_counter()
            corpus = make_corpus(contents)
            volumes(contents, corpus)
            self.assertLess(time.perf_counter() - begin, 6)


if __name__ == "__main__":
    unittest.main()
