"""[b1] the present contents and the published state, [b2] deeds, [b4] what is published."""

import random
import time
import unittest

from corpuskeep.books import Book
from corpuskeep.corpora import make_corpus
from corpuskeep.errors import (
    CorpusError, DuplicateDocument, NotPublished, OtherSources, RulesFault, TooLarge, TooManyDocuments,
    UnknownDocument, UnknownSource,
)
from tests.samples import (
    FULL_TEXT, corpus_fields, frozen, random_deed, random_exams, random_rules, random_text, rules_text, spoil,
)

TEXT = rules_text(sources="sources s 1, t 2;")


def book_after(*deeds, text=TEXT):
    book = Book(text)
    for deed in deeds:
        book.apply(deed)
    return book


def state(book):
    """Return all that a book tells, as a value that compares by what it holds."""
    try:
        last = book.last()
    except NotPublished:
        last = None
    return frozen([book.now(), last])


DEEDS = [
    ("add", 5, "s", "a b c"), ("add", 2, "t", "d e\nf"), ("exams", ["b c", ""]), ("publish",), ("replace", 5, "g h"),
    ("add", 999999, "s", ""), ("remove", 2),
]


class NewBookTest(unittest.TestCase):
    def test_the_present_contents(self):
        contents = Book(TEXT).now()
        self.assertEqual((contents.rules_text, contents.documents, contents.exams), (TEXT, [], []))
        self.assertEqual(contents.rules.sources, [("s", 1), ("t", 2)])

    def test_it_was_never_published(self):
        self.assertRaises(NotPublished, Book(TEXT).last)
        self.assertRaises(NotPublished, book_after(*DEEDS[:3]).last)

    def test_rules_with_a_fault(self):
        with self.assertRaises(RulesFault) as caught:
            Book("sources a 0;")
        error = caught.exception
        self.assertEqual((error.line, error.column, error.message), (1, 11, "number must be at least 1"))

    def test_rules_beyond_the_limits(self):
        self.assertRaises(TooLarge, Book, rules_text(joins="joins 31;"))
        Book(rules_text(joins="joins 30;"))

    def test_a_fault_comes_before_the_limits(self):
        self.assertRaises(RulesFault, Book, rules_text(joins="joins 31;", volumes="volumes 0;"))


class DeedsTest(unittest.TestCase):
    def test_add(self):
        book = book_after(("add", 5, "t", "x"), ("add", 0, "s", ""), ("add", 999999, "t", "y\n"))
        self.assertEqual(book.now().documents, [(0, 0, ""), (5, 1, "x"), (999999, 1, "y\n")])

    def test_replace_keeps_the_source(self):
        book = book_after(("add", 5, "t", "x"), ("add", 6, "s", "x"), ("replace", 5, "z"))
        self.assertEqual(book.now().documents, [(5, 1, "z"), (6, 0, "x")])

    def test_remove(self):
        book = book_after(("add", 5, "t", "x"), ("add", 6, "s", "x"), ("remove", 5))
        self.assertEqual(book.now().documents, [(6, 0, "x")])
        book.apply(("add", 5, "s", "new"))
        self.assertEqual(book.now().documents, [(5, 0, "new"), (6, 0, "x")])

    def test_rules(self):
        for sources in ("sources s 1, t 2;", "sources s 9, t 100;", "sources s 1, t 2, u 3, a 4;"):
            text = rules_text(sources=sources, mark='mark "!";')
            book = book_after(("add", 5, "t", "x"), ("rules", text))
            contents = book.now()
            self.assertEqual(contents.rules_text, text)
            self.assertEqual(contents.rules.mark, "!")
            self.assertEqual(contents.documents, [(5, 1, "x")])

    def test_further_sources_can_be_used(self):
        book = book_after(("rules", rules_text(sources="sources s 1, t 2, u 3;")), ("add", 1, "u", "x"))
        self.assertEqual(book.now().documents, [(1, 2, "x")])

    def test_exams(self):
        self.assertEqual(book_after(("exams", ["a", "", "b"])).now().exams, ["a", "", "b"])
        self.assertEqual(book_after(("exams", ["a", "b"]), ("exams", [])).now().exams, [])

    def test_the_list_of_exams_is_copied(self):
        texts = ["a"]
        book = book_after(("exams", texts))
        texts.append("b")
        self.assertEqual(book.now().exams, ["a"])

    def test_publish(self):
        book = book_after(*DEEDS[:4])
        contents, corpus, work = book.last()
        self.assertEqual(frozen(contents), frozen(book.now()))
        self.assertEqual(corpus_fields(corpus), corpus_fields(make_corpus(book.now())))
        self.assertIs(type(work), tuple)

    def test_the_published_state_stays_while_the_book_changes(self):
        book = book_after(*DEEDS[:4])
        before = frozen(book.last())
        for deed in DEEDS[4:] + [("rules", rules_text(sources="sources s 7, t 7, u 7;")), ("exams", [])]:
            book.apply(deed)
            self.assertEqual(frozen(book.last()), before)
        book.apply(("publish",))
        self.assertNotEqual(frozen(book.last()), before)
        self.assertEqual(frozen(book.last()[0]), frozen(book.now()))


class RefusalsTest(unittest.TestCase):
    def assert_refused(self, book, deed, error, **wanted):
        before = state(book)
        with self.assertRaises(error) as caught:
            book.apply(deed)
        self.assertIs(type(caught.exception), error)
        self.assertEqual(vars(caught.exception), wanted)
        self.assertEqual(state(book), before)

    def setUp(self):
        self.book = book_after(*DEEDS)
        self.full = book_after(*DEEDS)
        for number in range(100, 122):
            self.full.apply(("add", number, "t", "w"))

    def test_too_many_documents(self):
        self.assertEqual(len(self.full.now().documents), 24)
        self.assert_refused(self.full, ("add", 7, "s", "x"), TooManyDocuments)
        self.full.apply(("remove", 5))
        self.full.apply(("add", 7, "s", "x"))
        self.assert_refused(self.full, ("add", 8, "s", "x"), TooManyDocuments)

    def test_a_document_that_is_there(self):
        self.assert_refused(self.book, ("add", 5, "s", "x"), DuplicateDocument, id=5)

    def test_a_source_that_is_not_there(self):
        for name in ("u", "S", "", "s t"):
            self.assert_refused(self.book, ("add", 7, name, "x"), UnknownSource, name=name)

    def test_the_order_of_the_refusals_of_add(self):
        self.assert_refused(self.full, ("add", 5, "u", "x"), TooManyDocuments)
        self.assert_refused(self.full, ("add", 7, "u", "x"), TooManyDocuments)
        self.assert_refused(self.book, ("add", 5, "u", "x"), DuplicateDocument, id=5)

    def test_documents_that_are_not_there(self):
        for number in (0, 2, 4, 6):
            self.assert_refused(self.book, ("replace", number, "x"), UnknownDocument, id=number)
            self.assert_refused(self.book, ("remove", number), UnknownDocument, id=number)

    def test_rules_with_a_fault(self):
        self.assert_refused(self.book, ("rules", ""), RulesFault, line=1, column=1, message="unexpected sign")

    def test_rules_beyond_the_limits(self):
        text = rules_text(sources="sources s 1, t 101;")
        self.assert_refused(self.book, ("rules", text), TooLarge)

    def test_other_sources(self):
        for sources in (
            "sources s 1;", "sources t 2, s 1;", "sources s 1, u 2;", "sources u 1, s 1, t 2;", "sources t 1;",
            "sources s 1, u 1, t 2;",
        ):
            self.assert_refused(self.book, ("rules", rules_text(sources=sources)), OtherSources)

    def test_sources_that_no_document_has_must_stay_too(self):
        self.assert_refused(Book(TEXT), ("rules", rules_text(sources="sources s 1;")), OtherSources)

    def test_the_order_of_the_refusals_of_rules(self):
        changed = {"sources": "sources u 101;", "volumes": "volumes 0;"}
        with self.assertRaises(RulesFault):
            self.book.apply(("rules", rules_text(**changed)))
        self.assert_refused(self.book, ("rules", rules_text(sources="sources u 101;")), TooLarge)
        self.assert_refused(self.book, ("rules", rules_text(sources="sources u 100;")), OtherSources)

    def test_a_refused_deed_changes_no_later_publication(self):
        other = book_after(*DEEDS)
        for deed in (("add", 5, "s", "x"), ("remove", 1), ("rules", FULL_TEXT), ("add", 7, "u", "z")):
            self.assertRaises(CorpusError, self.book.apply, deed)
        self.book.apply(("publish",))
        other.apply(("publish",))
        self.assertEqual(state(self.book), state(other))


class HandedOutTest(unittest.TestCase):
    def test_spoilt_answers_change_nothing(self):
        book = book_after(*DEEDS)
        other = book_after(*DEEDS)
        before = state(book)
        spoil(book.now())
        self.assertEqual(state(book), before)
        spoil(book.last())
        self.assertEqual(state(book), before)
        # Neither does the next publication feel it, with its work.
        for one in (book, other):
            one.apply(("publish",))
        self.assertEqual(state(book), state(other))

    def test_spoilt_lists_within_the_rules(self):
        book = book_after(*DEEDS)
        before = state(book)
        for rules in (book.now().rules, book.last()[0].rules):
            rules.sources.clear()
            rules.changes.append(("a", "b"))
            rules.mark = "?"
        self.assertEqual(state(book), before)
        book.apply(("add", 50, "s", "x"))

    def test_deeds_are_not_changed(self):
        deeds = [("exams", ["a b", "c"]), ("add", 1, "s", "x"), ("publish",)]
        before = frozen(deeds)
        state(book_after(*deeds))
        self.assertEqual(frozen(deeds), before)


class HistoriesTest(unittest.TestCase):
    """[b4], whatever was done before."""

    def histories(self, seed, many, length):
        """Return books after random deeds, just published each."""
        source = random.Random(seed)
        for _ in range(many):
            book = Book(random_rules(source, 1))
            for _ in range(length):
                try:
                    book.apply(random_deed(source, range(12)))
                except CorpusError:
                    pass
                if source.randrange(4) == 0:
                    book.apply(("publish",))
            book.apply(("publish",))
            yield source, book

    def test_two_histories_with_the_same_contents(self):
        for source, book in self.histories(27, 60, 40):
            contents, corpus, _ = book.last()
            other = Book(contents.rules_text)
            for _ in range(source.randrange(3)):
                other.apply(("add", source.randrange(12, 20), contents.rules.sources[0][0], random_text(source)))
                other.apply(("exams", random_exams(source)))
                other.apply(("publish",))
                other.apply(("remove", other.now().documents[0][0]))
            other.apply(("exams", contents.exams))
            documents = list(contents.documents)
            source.shuffle(documents)
            for number, _, _ in other.now().documents:
                other.apply(("remove", number))
            for number, own, text in documents:
                other.apply(("add", number, contents.rules.sources[own][0], text))
            other.apply(("publish",))
            self.assertEqual(frozen(other.last()[:2]), frozen((contents, corpus)))

    def test_publishing_again_changes_nothing_and_needs_no_work(self):
        for _, book in self.histories(28, 30, 20):
            contents, corpus, _ = book.last()
            book.apply(("publish",))
            self.assertEqual(frozen(book.last()), frozen((contents, corpus, (0, 0, 0, 0))))


class SpeedTest(unittest.TestCase):
    def test_at_the_bounds(self):
        source = random.Random(30)
        book = Book(rules_text(
            sources="sources s 1, t 100, u 7, v 9;", changes='change "c" to "c d e c"; change "d" to "d x d yd";',
            joins="joins 30;", pages="pages 1;", alike="alike 1 of 3, runs of 3;", phrases="phrases 3;",
        ))
        book.apply(("exams", ["".join(source.choice("cdef ") for _ in range(200)) for _ in range(6)]))
        for number in range(24):
            text = "".join(source.choice("cdefghijk ") for _ in range(400))
            book.apply(("add", number, "stuv"[number % 4], text))
        begin = time.perf_counter()
        book.apply(("publish",))
        book.apply(("replace", 3, "c d e"))
        book.apply(("publish",))
        book.last()
        self.assertLess(time.perf_counter() - begin, 8)


if __name__ == "__main__":
    unittest.main()
