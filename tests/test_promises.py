"""[0] what a collection promises in every published state, whatever was done before."""

import random
import unittest

from corpuskeep.checking import why_not
from corpuskeep.corpora import Contents, make_corpus
from corpuskeep.errors import CorpusError
from corpuskeep.journals import choose, recover, seal
from corpuskeep.keepers import Keeper, take_up
from corpuskeep.papers import certificate, read_certificate, write_certificate
from tests.plain import broken_promises, plain_corpus
from tests.samples import corpus_fields, frozen, make_contents, random_deed, random_rules
from tests.test_journals import journal_of


class PromisesTest(unittest.TestCase):
    def assert_promises(self, book):
        contents, corpus, work = book.last()
        self.assertEqual(broken_promises(contents, corpus), [])
        # What is published depends on the contents only.
        self.assertEqual(corpus_fields(corpus), plain_corpus(contents))
        again = Contents(contents.rules_text, contents.documents, contents.exams)
        self.assertEqual(frozen(make_corpus(again)), frozen(corpus))
        # The state comes with a certificate that the checker accepts, also after it was written down.
        paper = read_certificate(write_certificate(certificate(contents, corpus)))
        self.assertIsNone(why_not(contents, corpus, paper))
        return corpus

    def test_every_published_state(self):
        source = random.Random(60)
        published = 0
        for _ in range(60):
            keeper = Keeper(random_rules(source, 1))
            for _ in range(40):
                deed = random_deed(source, range(10))
                try:
                    keeper.do(deed)
                except CorpusError:
                    continue
                if deed == ("publish",):
                    published += len(self.assert_promises(keeper.book).published)
                keeper = self.perhaps_taken_up(source, keeper)
        self.assertGreater(published, 500)

    def perhaps_taken_up(self, source, keeper):
        """Return the keeper, or perhaps one that takes up its journal, which may be shortened or cut."""
        way = source.randrange(20)
        journal = keeper.journal()
        if way == 0:
            # Only the end is cut, so that the first deed stays.
            least = len(journal_of(recover(journal)[0][:1]))
            return take_up(journal[:max(len(journal) - source.randrange(90), least)])
        if way == 1:
            keeper.shorten()
            sealed = seal(keeper.journal())
            return take_up(choose(journal, sealed[:source.choice([len(sealed), source.randrange(len(sealed))])]))
        return keeper


class BrokenTest(unittest.TestCase):
    """The promises that the tests ask for can be broken."""

    CONTENTS = make_contents([(1, 0, "a b c x y d"), (2, 1, "e f g"), (3, 0, "h i j")], ["x y"],
                             sources="sources s 1, t 1;", pages="pages 3;")

    def test_each_promise(self):
        for wanted, name, change in (
            ("two documents are alike", "published", lambda rows: rows + [(9, 1, 0, words) for _, _, _, words in rows]),
            ("a phrase is published", "published", lambda rows: [(1, 0, 3, ["x", "y"])] + rows),
            ("a text is cut where no phrase stands", "pieces", lambda rows: [(1, [(0, ["a"])])] + rows[1:]),
            ("a phase is not fair", "phases", lambda rows: [sorted(phase) for phase in rows]),
            ("the pages are in another order", "pages", lambda rows: rows[::-1]),
            ("the pages do not read back", "pages", lambda rows: rows[1:]),
        ):
            corpus = make_corpus(self.CONTENTS)
            self.assertEqual(broken_promises(self.CONTENTS, corpus), [])
            setattr(corpus, name, change(getattr(corpus, name)))
            self.assertIn(wanted, broken_promises(self.CONTENTS, corpus))


if __name__ == "__main__":
    unittest.main()
