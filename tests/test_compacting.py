"""Compact journals (corpuskeep/compacting.py)."""

import random
import unittest

from corpuskeep.books import Book
from corpuskeep.compacting import compact
from corpuskeep.errors import CorpusError, NotPublished
from corpuskeep.journals import recover
from tests.samples import frozen, random_deed, random_rules, rules_text
from tests.test_books import book_after, state
from tests.test_journals import journal_of

TEXT = rules_text(sources="sources s 1, t 2;")
OTHER = rules_text(sources="sources s 3, t 2, u 1;")
START = [("add", 9, "t", "a b"), ("exams", ["b c", "d"]), ("add", 4, "s", "e f"), ("add", 5, "s", "g h")]
FIRST = [
    ("rules", TEXT), ("exams", ["b c", "d"]), ("add", 4, "s", "e f"), ("add", 5, "s", "g h"), ("add", 9, "t", "a b"),
]


def compact_deeds(book):
    journal = compact(book)
    deeds, length = recover(journal)
    assert length == len(journal) and journal == journal_of(deeds)
    return deeds


def replayed(deeds):
    """Return a new book that has done all the deeds."""
    book = Book(deeds[0][1])
    for deed in deeds:
        book.apply(deed)
    return book


def contents_and_corpus(book):
    try:
        last = book.last()[:2]
    except NotPublished:
        last = None
    return frozen([book.now(), last])


class DeedsTest(unittest.TestCase):
    def assert_compact(self, deeds, wanted):
        book = book_after(*deeds, text=TEXT)
        self.assertEqual(compact_deeds(book), wanted)
        self.assertEqual(contents_and_corpus(replayed(wanted)), contents_and_corpus(book))

    def test_a_new_book(self):
        self.assert_compact([], [("rules", TEXT), ("exams", [])])

    def test_never_published(self):
        self.assert_compact(START, FIRST)
        self.assert_compact(START + [("rules", OTHER), ("remove", 5), ("replace", 4, "x"), ("add", 1, "u", "z")], [
            ("rules", OTHER), ("exams", ["b c", "d"]), ("add", 1, "u", "z"), ("add", 4, "s", "x"),
            ("add", 9, "t", "a b"),
        ])

    def test_published_and_unchanged(self):
        self.assert_compact(START + [("publish",)], FIRST + [("publish",)])
        self.assert_compact([("publish",)], [("rules", TEXT), ("exams", []), ("publish",)])

    def test_changed_and_changed_back(self):
        deeds = [("publish",), ("rules", OTHER.replace(", u 1", "")), ("exams", []), ("remove", 9), ("replace", 4, ""),
                 ("add", 6, "s", "q"), ("rules", TEXT), ("exams", ["b c", "d"]), ("add", 9, "t", "a b"),
                 ("replace", 4, "e f"), ("remove", 6)]
        self.assert_compact(START + deeds, FIRST + [("publish",)])

    def test_rules_changed(self):
        for text in (OTHER, TEXT + " ", TEXT.replace("volumes 4", "volumes 04")):
            self.assert_compact(START + [("publish",), ("rules", text)], FIRST + [("publish",), ("rules", text)])

    def test_exams_changed(self):
        for exams in ([], ["d", "b c"], ["b c", "d", ""]):
            self.assert_compact(START + [("publish",), ("exams", exams)], FIRST + [("publish",), ("exams", exams)])

    def test_texts_changed(self):
        self.assert_compact(
            START + [("publish",), ("replace", 9, ""), ("replace", 4, "x")],
            FIRST + [("publish",), ("replace", 4, "x"), ("replace", 9, "")],
        )
        self.assert_compact(
            START + [("publish",), ("remove", 9), ("add", 9, "t", "y")], FIRST + [("publish",), ("replace", 9, "y")],
        )

    def test_documents_gone_and_new_ones(self):
        self.assert_compact(
            START + [("publish",), ("remove", 9), ("add", 10, "t", "x"), ("remove", 5), ("add", 2, "s", "y")],
            FIRST + [("publish",), ("remove", 5), ("remove", 9), ("add", 2, "s", "y"), ("add", 10, "t", "x")],
        )

    def test_all_at_once(self):
        changes = [
            ("replace", 4, "x"), ("add", 7, "s", "y"), ("remove", 9), ("exams", []), ("rules", OTHER),
            ("add", 3, "u", "z"), ("replace", 5, "w"),
        ]
        self.assert_compact(START + [("publish",)] + changes, FIRST + [
            ("publish",), ("rules", OTHER), ("exams", []), ("remove", 9), ("replace", 4, "x"), ("replace", 5, "w"),
            ("add", 3, "u", "z"), ("add", 7, "s", "y"),
        ])

    def test_another_source(self):
        for text in ("e f", "new"):
            self.assert_compact(
                START + [("publish",), ("remove", 4), ("add", 4, "t", text), ("remove", 9), ("add", 1, "s", "b")],
                FIRST + [("publish",), ("remove", 4), ("remove", 9), ("add", 1, "s", "b"), ("add", 4, "t", text)],
            )

    def test_several_publications(self):
        self.assert_compact(
            START + [("publish",), ("replace", 4, "x"), ("publish",), ("replace", 9, "y")],
            [("add", 4, "s", "x") if deed == FIRST[2] else deed for deed in FIRST]
            + [("publish",), ("replace", 9, "y")],
        )

    def test_a_full_book_with_other_documents(self):
        deeds = [("add", number, "s", "a") for number in range(24)] + [("publish",)]
        gone = [("remove", number) for number in range(24)]
        new = [("add", number, "t", "b") for number in range(12, 36)]
        wanted = [("rules", TEXT), ("exams", [])] + deeds + gone + new
        self.assert_compact(deeds + gone + new, wanted)


class RandomTest(unittest.TestCase):
    def books(self, seed, many):
        source = random.Random(seed)
        for _ in range(many):
            book = Book(random_rules(source, 1))
            for _ in range(source.randrange(40)):
                try:
                    book.apply(random_deed(source, range(9)))
                except CorpusError:
                    pass
            yield book

    def test_the_same_contents_and_the_same_published_corpus(self):
        for book in self.books(42, 80):
            before = state(book)
            other = replayed(compact_deeds(book))
            self.assertEqual(state(book), before)
            self.assertEqual(contents_and_corpus(other), contents_and_corpus(book))
            self.assertEqual(compact(other), compact(book))

    def test_the_same_bytes_for_another_history(self):
        for book in self.books(43, 40):
            deeds = compact_deeds(book)
            # The same documents are added, changed and taken down once more on the way.
            other = Book(deeds[0][1])
            for deed in deeds:
                if deed[0] == "add":
                    other.apply(("add", deed[1], deed[2], "draft"))
                    other.apply(("remove", deed[1]))
                    other.apply(("add", deed[1], deed[2], "draft"))
                    other.apply(("replace", deed[1], deed[3]))
                    continue
                if deed[0] == "publish":
                    other.apply(deed)
                other.apply(deed)
            self.assertEqual(compact(other), compact(book))

    def test_the_journal_is_new(self):
        for book in self.books(44, 3):
            wanted = compact(book)
            compact(book).clear()
            self.assertEqual(compact(book), wanted)


if __name__ == "__main__":
    unittest.main()
