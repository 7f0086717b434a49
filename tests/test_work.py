"""[b3] the work of a publication."""

import random
import unittest

from corpuskeep.books import Book
from corpuskeep.errors import CorpusError
from tests.plain import plain_corpus
from tests.samples import random_deed, random_rules, rules_text

DOCUMENTS = [(1, "a b c d e f"), (2, "a b c d e f"), (3, "g h i x y j k"), (4, "q"), (5, "l m n a b")]
PLAIN = {"sources": "sources s 1, t 2;", "documents": "documents least 2;", "joins": "joins 1;"}
WORDS = 6 + 6 + 5


def new_book():
    book = Book(rules_text(**PLAIN))
    book.apply(("exams", ["x y"]))
    for number, text in DOCUMENTS:
        book.apply(("add", number, "s", text))
    return book


def published_book():
    book = new_book()
    book.apply(("publish",))
    return book


def work_after(book, *deeds):
    for deed in deeds + (("publish",),):
        book.apply(deed)
    return book.last()[2]


def work_of_rules(**changed):
    return work_after(published_book(), ("rules", rules_text(**{**PLAIN, **changed})))


def plain_work(contents, before):
    """The definition; `before` are the contents that were published before, or None."""
    kinds = []
    for one in (contents, before):
        if one is None:
            kinds.append([(None, set())] * 4)
            continue
        fields = plain_corpus(one)
        rules = one.rules
        left = [str(pieces) for _, pieces in fields["left"]]
        kinds.append([
            ([rules.changes, rules.hidden, rules.mark], {text for _, _, text in one.documents}),
            (fields["phrases"], {str(words) for _, reason, words in fields["cleaned"] if not reason}),
            ([rules.run_words, rules.alike_least, rules.alike_of],
             {(left[i], left[j]) for j in range(len(left)) for i in range(j)}),
            (fields["joins"], {word for _, _, _, words in fields["published"] for word in words}),
        ])
    return tuple(
        len(things - (old_things if basis == old_basis else set()))
        for (basis, things), (old_basis, old_things) in zip(*kinds)
    )


class FirstTest(unittest.TestCase):
    def test_the_first_publication(self):
        # Texts: those of 1 and 2 are the same. Words: 4 is dropped. Pairs: of 1, 2, 3 and 5 in order, in which
        # (1, 3) and (2, 3) are the same, (1, 5) and (2, 5) too. Different words of 1, 3 and 5: a to n without x, y.
        self.assertEqual(work_after(new_book()), (4, 3, 4, 14))

    def test_an_empty_book(self):
        self.assertEqual(work_after(Book(rules_text())), (0, 0, 0, 0))

    def test_kinds(self):
        work = work_after(new_book())
        self.assertIs(type(work), tuple)
        self.assertEqual({type(many) for many in work}, {int})


class LaterTest(unittest.TestCase):
    def test_publishing_again(self):
        self.assertEqual(work_after(published_book()), (0, 0, 0, 0))

    def test_one_text_changed(self):
        # The new pairs are those of 3 with 1 (or 2), and with 5; the words o and p are new.
        self.assertEqual(work_after(published_book(), ("replace", 3, "o p")), (1, 1, 2, 2))

    def test_a_text_changed_to_one_that_was_there(self):
        # The pair (a b c .., a b c ..) was there, that with 5 as well; no word is new.
        self.assertEqual(work_after(published_book(), ("replace", 3, DOCUMENTS[0][1])), (0, 0, 0, 0))

    def test_a_changed_text_with_the_same_words(self):
        self.assertEqual(work_after(published_book(), ("replace", 3, "g h i\nx y j k")), (1, 0, 0, 0))

    def test_a_changed_text_with_other_words_and_the_same_left(self):
        # A phrase more is cut out; the list of words is new, what is left is not.
        self.assertEqual(work_after(published_book(), ("replace", 3, "g h i x y x y j k")), (1, 1, 0, 0))

    def test_words_of_documents_that_are_not_published(self):
        # The text of 4 has a new word, but it is dropped.
        self.assertEqual(work_after(published_book(), ("replace", 4, "z")), (1, 0, 0, 0))
        # Document 9 is a duplicate of 1 by 6 of 7 words, so its word z is not published.
        self.assertEqual(work_after(published_book(), ("add", 9, "s", DOCUMENTS[0][1] + " z")), (1, 1, 3, 0))

    def test_a_document_removed(self):
        self.assertEqual(work_after(published_book(), ("remove", 3)), (0, 0, 0, 0))

    def test_the_order_within_a_pair(self):
        # What 3 has is now left of 0, with the lesser id, so all pairs with it are new ones.
        deeds = [("remove", 3), ("add", 0, "s", DOCUMENTS[2][1])]
        self.assertEqual(work_after(published_book(), *deeds), (0, 0, 1, 0))

    def test_a_document_removed_and_added_again(self):
        deeds = [("remove", 3), ("add", 3, "t", DOCUMENTS[2][1])]
        self.assertEqual(work_after(published_book(), *deeds), (0, 0, 0, 0))

    def test_only_the_state_published_before_counts(self):
        book = published_book()
        work_after(book, ("remove", 3))
        self.assertEqual(work_after(book, ("add", 3, "s", DOCUMENTS[2][1])), (1, 1, 2, 5))

    def test_a_change_that_is_taken_back_before_the_publication(self):
        deeds = [("exams", ["m n"]), ("rules", rules_text(**{**PLAIN, "mark": 'mark "!";'})), ("replace", 1, "z"),
                 ("rules", rules_text(**PLAIN)), ("exams", ["x y"]), ("replace", 1, DOCUMENTS[0][1])]
        self.assertEqual(work_after(published_book(), *deeds), (0, 0, 0, 0))


class RulesTest(unittest.TestCase):
    def test_other_marks_hidden_shapes_and_changes(self):
        for changed in (
            {"mark": 'mark "!";'}, {"hidden": "hide digit 9;"}, {"changes": 'change "+" to "-";'},
        ):
            self.assertEqual(work_of_rules(**changed), (4, 0, 0, 0))

    def test_the_order_of_changes_and_hidden_shapes(self):
        for part, first, second in (
            ("changes", 'change "+" to "-"; ', 'change "-" to "+"; '), ("hidden", "hide digit 9; ", "hide digit 8; "),
        ):
            book = published_book()
            rows = [("rules", rules_text(**{**PLAIN, part: text})) for text in (first + second, second + first)]
            self.assertEqual([work_after(book, row) for row in rows + rows[1:]], [(4, 0, 0, 0)] * 2 + [(0, 0, 0, 0)])

    def test_other_phrases(self):
        self.assertEqual(work_after(published_book(), ("exams", ["x y", "v w"])), (0, 3, 0, 0))
        self.assertEqual(work_after(published_book(), ("exams", ["x y", "x y"])), (0, 3, 0, 0))
        self.assertEqual(work_after(published_book(), ("exams", ["x y", "v"])), (0, 0, 0, 0))
        self.assertEqual(work_after(published_book(), ("exams", ["", "x\ny"])), (0, 0, 0, 0))

    def test_rules_that_change_the_phrases_only(self):
        book = published_book()
        work_after(book, ("exams", ["v w"]))
        self.assertEqual(work_after(book, ("rules", rules_text(**{**PLAIN, "phrases": "phrases 1;"}))), (0, 3, 0, 0))

    def test_the_order_of_phrases(self):
        book = published_book()
        rows = [("exams", ["x y", "v w"]), ("exams", ["v w", "x y"]), ("exams", ["v w", "x y"])]
        self.assertEqual([work_after(book, row)[1] for row in rows], [3, 3, 0])

    def test_other_likeness(self):
        for alike in ("alike 1 of 2, runs of 4;", "alike 1 of 3, runs of 3;", "alike 2 of 4, runs of 3;"):
            self.assertEqual(work_of_rules(alike=alike), (0, 0, 4, 0))

    def test_other_joins(self):
        work = work_of_rules(joins="joins 0;")
        self.assertEqual(work, (0, 0, 0, 14))
        self.assertEqual(work_of_rules(joins="joins 1;"), (0, 0, 0, 0))

    def test_rules_that_change_none_of_them(self):
        self.assertEqual(work_of_rules(
            sources="sources s 5, t 9, u 1;", pages="pages 3;", volumes="volumes 1;", lines="lines least 1;",
            shares="share digit 9: 0 of 1;",
        ), (0, 0, 0, 0))


class RandomTest(unittest.TestCase):
    def test_random_histories_against_the_definition(self):
        source = random.Random(31)
        seen = []
        for _ in range(60):
            book = Book(random_rules(source, 1))
            before = None
            for _ in range(30):
                deed = random_deed(source, range(8))
                try:
                    book.apply(deed)
                except CorpusError:
                    continue
                if deed == ("publish",):
                    self.assertEqual(book.last()[2], plain_work(book.now(), before))
                    before = book.now()
                    seen.append(book.last()[2])
        for at in range(4):
            self.assertGreater(len({work[at] for work in seen}), 4)


if __name__ == "__main__":
    unittest.main()
