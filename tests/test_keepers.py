"""[j5] keepers."""

import random
import unittest

from corpuskeep.books import Book
from corpuskeep.compacting import compact
from corpuskeep.errors import (
    CorpusError, DuplicateDocument, InvalidBytes, NotPublished, OtherSources, RulesFault, TooLarge, UnknownDocument,
    UnknownSource,
)
from corpuskeep.journals import choose, recover, seal
from corpuskeep.keepers import Keeper, take_up
from tests.samples import random_deed, random_rules, rules_text
from tests.test_books import DEEDS, TEXT, book_after, state
from tests.test_compacting import contents_and_corpus
from tests.test_journals import HEADER, ends_of, journal_of, with_bodies
from tests.test_records import plain_deed


def keeper_after(*deeds, text=TEXT):
    keeper = Keeper(text)
    for deed in deeds:
        keeper.do(deed)
    return keeper


class KeeperTest(unittest.TestCase):
    def test_a_new_keeper(self):
        keeper = Keeper(TEXT)
        self.assertIs(type(keeper.book), Book)
        self.assertEqual(state(keeper.book), state(Book(TEXT)))
        self.assertEqual(keeper.journal(), journal_of([("rules", TEXT)]))

    def test_what_a_book_raises(self):
        for text, error in (
            ("sources a 0;", RulesFault), (rules_text(joins="joins 31;"), TooLarge),
            (rules_text(joins="joins 31;", volumes="volumes 0;"), RulesFault),
        ):
            self.assertRaises(error, Keeper, text)

    def test_deeds_are_done_and_written_down(self):
        keeper = Keeper(TEXT)
        done = [("rules", TEXT)]
        for deed in DEEDS:
            keeper.do(deed)
            done.append(deed)
            self.assertEqual(keeper.journal(), journal_of(done))
            self.assertEqual(state(keeper.book), state(book_after(*done)))

    def test_a_refused_deed_leaves_the_journal_as_it_was(self):
        keeper = keeper_after(*DEEDS)
        journal = keeper.journal()
        before = state(keeper.book)
        for deed, error in (
            (("add", 5, "s", "x"), DuplicateDocument), (("add", 7, "u", "x"), UnknownSource),
            (("replace", 2, "x"), UnknownDocument), (("remove", 2), UnknownDocument), (("rules", ""), RulesFault),
            (("rules", rules_text(joins="joins 31;")), TooLarge), (("rules", rules_text()), OtherSources),
        ):
            self.assertRaises(error, keeper.do, deed)
            self.assertEqual(keeper.journal(), journal)
            self.assertEqual(state(keeper.book), before)
        keeper.do(("publish",))
        self.assertEqual(keeper.journal(), journal_of([("rules", TEXT)] + DEEDS + [("publish",)]))

    def test_the_journal_is_a_copy(self):
        keeper = keeper_after(*DEEDS)
        journal = keeper.journal()
        keeper.journal().clear()
        self.assertEqual(keeper.journal(), journal)
        keeper.do(("publish",))
        self.assertEqual(journal, journal_of([("rules", TEXT)] + DEEDS))

    def test_a_deed_is_copied(self):
        exams = ["a"]
        keeper = keeper_after(("exams", exams))
        exams.append("b")
        self.assertEqual(recover(keeper.journal())[0][1], ("exams", ["a"]))

    def test_shorten(self):
        keeper = keeper_after(*DEEDS)
        before = state(keeper.book)
        keeper.shorten()
        self.assertEqual(state(keeper.book), before)
        self.assertEqual(keeper.journal(), compact(keeper.book))
        self.assertEqual(contents_and_corpus(take_up(keeper.journal()).book), contents_and_corpus(keeper.book))

    def test_a_shortened_journal_goes_on(self):
        for deeds in ([], DEEDS):
            keeper = keeper_after(*deeds)
            keeper.shorten()
            short = recover(keeper.journal())[0]
            keeper.do(("add", 77, "t", "x"))
            keeper.do(("publish",))
            self.assertEqual(keeper.journal(), journal_of(short + [("add", 77, "t", "x"), ("publish",)]))


class TakeUpTest(unittest.TestCase):
    def assert_invalid(self, data):
        with self.assertRaises(InvalidBytes) as caught:
            take_up(data)
        self.assertEqual(caught.exception.at, 0)

    def assert_taken_up(self, data, deeds):
        """Check that just these deeds were done and are in the journal."""
        before = list(data)
        keeper = take_up(data)
        self.assertIs(type(keeper), Keeper)
        self.assertEqual(data, before)
        self.assertEqual(keeper.journal(), journal_of(deeds))
        self.assertEqual(state(keeper.book), state(book_after(*deeds[1:], text=deeds[0][1])))
        keeper.do(("exams", ["z"]))
        self.assertEqual(keeper.journal(), journal_of(deeds + [("exams", ["z"])]))

    def test_a_whole_journal(self):
        self.assert_taken_up(keeper_after(*DEEDS).journal(), [("rules", TEXT)] + DEEDS)
        self.assert_taken_up(Keeper(TEXT).journal(), [("rules", TEXT)])

    def test_the_work_is_that_of_the_first_keeper(self):
        keeper = keeper_after(*DEEDS, ("publish",))
        self.assertEqual(take_up(keeper.journal()).book.last()[2], keeper.book.last()[2])

    def test_a_journal_that_is_cut_anywhere(self):
        deeds = [("rules", TEXT)] + DEEDS
        journal = journal_of(deeds)
        ends = ends_of(deeds)
        for cut in range(len(journal) + 1):
            whole = sum(end <= cut for end in ends) - 1
            if whole < 1:
                self.assert_invalid(journal[:cut])
            else:
                keeper = take_up(journal[:cut])
                self.assertEqual(keeper.journal(), journal[:ends[whole]])
                if cut in ends or cut + 1 in ends:
                    self.assert_taken_up(journal[:cut], deeds[:whole])

    def test_a_changed_byte(self):
        deeds = [("rules", TEXT)] + DEEDS
        journal = journal_of(deeds)
        ends = ends_of(deeds)
        for at in range(0, len(journal), 7):
            whole = sum(end <= at for end in ends) - 1
            data = journal[:at] + [journal[at] ^ 4] + journal[at + 1:]
            if whole < 1:
                self.assert_invalid(data)
            else:
                self.assertEqual(take_up(data).journal(), journal[:ends[whole]])

    def test_no_deed(self):
        for data in ([], HEADER, HEADER + [1, 2, 3], [67, 75, 2], with_bodies([[7]]), seal(HEADER)):
            self.assert_invalid(data)

    def test_a_first_deed_that_is_no_rules_deed(self):
        for deed in (("publish",), ("exams", []), ("add", 1, "s", "x"), ("replace", 1, "x"), ("remove", 1)):
            self.assert_invalid(journal_of([deed, ("rules", TEXT)]))

    def test_a_first_deed_that_is_refused(self):
        for text in ("", "sources a 0;", rules_text(joins="joins 31;")):
            self.assert_invalid(journal_of([("rules", text), ("rules", TEXT)]))

    def test_a_later_deed_that_is_refused(self):
        for refused in (
            ("add", 5, "s", "x"), ("add", 8, "u", "x"), ("replace", 8, "x"), ("remove", 8), ("rules", ""),
            ("rules", rules_text()), ("rules", rules_text(joins="joins 31;")),
        ):
            done = [("rules", TEXT), ("add", 5, "t", "y"), ("publish",)]
            self.assert_taken_up(journal_of(done + [refused]), done)
            self.assert_taken_up(journal_of(done + [refused, ("publish",), ("add", 6, "s", "z")]), done)
            self.assert_taken_up(journal_of(done[:1] + [("remove", 1)] + done[1:]), done[:1])

    def test_a_sealed_journal(self):
        deeds = [("rules", TEXT)] + DEEDS
        self.assert_taken_up(seal(journal_of(deeds)), deeds)

    def test_random_histories(self):
        source = random.Random(45)
        for _ in range(30):
            keeper = Keeper(random_rules(source, 1))
            for _ in range(30):
                try:
                    keeper.do(random_deed(source, range(9)))
                except CorpusError:
                    pass
                if source.randrange(12) == 0:
                    keeper.shorten()
            journal = keeper.journal()
            other = take_up(journal)
            self.assertEqual(other.journal(), journal)
            self.assertEqual(contents_and_corpus(other.book), contents_and_corpus(keeper.book))
            # The old journal counts until the new one is written down as a whole.
            keeper.shorten()
            sealed = seal(keeper.journal())
            for cut in (0, 2, len(sealed) // 2, len(sealed) - 1):
                self.assertEqual(choose(journal, sealed[:cut]), journal)
            chosen = take_up(choose(journal, sealed))
            self.assertEqual(chosen.journal(), keeper.journal())
            self.assertEqual(contents_and_corpus(chosen.book), contents_and_corpus(keeper.book))

    def test_what_a_cut_journal_publishes(self):
        deeds = [("rules", TEXT)] + DEEDS + [("publish",)]
        journal = journal_of(deeds)
        end = len(journal_of(deeds[:4]))
        self.assertRaises(NotPublished, take_up(journal[:end]).book.last)
        self.assertEqual(take_up(journal[:-1]).book.last()[0].documents, [(2, 1, "d e\nf"), (5, 0, "a b c")])
        self.assertEqual(plain_deed(deeds[-1]), [6])


if __name__ == "__main__":
    unittest.main()
