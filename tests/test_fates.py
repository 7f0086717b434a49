"""[k2] the fate of each document, and the counts."""

import random
import unittest

from corpuskeep.corpora import make_corpus, stream
from corpuskeep.errors import UnknownDocument
from corpuskeep.fates import counts, fate
from tests.samples import frozen, make_contents, random_contents, spoil

# 1 and 8 are kept, 2 and 9 are duplicates, 4 has nothing left, 5 to 7 are dropped for different reasons.
CONTENTS = make_contents(
    [(1, 1, "a b c x y d e f"), (2, 0, "a b c x y d e f"), (4, 0, "g x y h"), (5, 1, "q"), (6, 0, "7 r s"),
     (7, 0, "t 42 u"), (8, 0, "k l m"), (9, 0, "k l m")],
    ["x y"], sources="sources s 1, t 2, u 3;", documents="documents least 2;", pieces="pieces least 2;",
    shares="share digit 1: 0 of 1; share digit 2: 1 of 4;", joins="joins 0;", pages="pages 4;",
)
CORPUS = make_corpus(CONTENTS)
KEYS = ["documents", "dropped", "nothing", "duplicates", "kept", "pieces", "words", "codes", "pages"]


class FateTest(unittest.TestCase):
    def test_each_fate(self):
        for number, wanted in (
            (1, ("kept", [(0, ["a", "b", "c"]), (5, ["d", "e", "f"])])), (2, ("duplicate", 1)), (4, ("nothing",)),
            (5, ("dropped", ("short",))), (6, ("dropped", ("share", 0))), (7, ("dropped", ("share", 1))),
            (8, ("kept", [(0, ["k", "l", "m"])])), (9, ("duplicate", 8)),
        ):
            self.assertEqual(fate(CONTENTS, CORPUS, number), wanted)

    def test_only_long_pieces_are_told(self):
        contents = make_contents([(0, 0, "a x y b c x y d")], ["x y"], pieces="pieces least 2;")
        self.assertEqual(fate(contents, make_corpus(contents), 0), ("kept", [(3, ["b", "c"])]))

    def test_unknown_documents(self):
        for number in (0, 3, 10, 999999, -1):
            with self.assertRaises(UnknownDocument) as caught:
                fate(CONTENTS, CORPUS, number)
            self.assertEqual(caught.exception.id, number)
        contents = make_contents([])
        self.assertRaises(UnknownDocument, fate, contents, make_corpus(contents), 0)

    def test_what_is_returned_is_new(self):
        before = frozen(CORPUS)
        spoil(fate(CONTENTS, CORPUS, 1))
        self.assertEqual(frozen(CORPUS), before)


class CountsTest(unittest.TestCase):
    def test_all_sources(self):
        wanted = dict(zip(KEYS, [8, 3, 1, 2, 2, 3, 9, 21, 6]))
        self.assertEqual(counts(CONTENTS, CORPUS), wanted)
        self.assertEqual(counts(CONTENTS, CORPUS, None), wanted)
        self.assertEqual(counts(CONTENTS, CORPUS, source=None), wanted)

    def test_each_source(self):
        self.assertEqual(counts(CONTENTS, CORPUS, 0), dict(zip(KEYS, [6, 2, 1, 2, 1, 1, 3, 7, 2])))
        self.assertEqual(counts(CONTENTS, CORPUS, source=1), dict(zip(KEYS, [2, 1, 0, 0, 1, 2, 6, 14, 4])))
        self.assertEqual(counts(CONTENTS, CORPUS, 2), dict.fromkeys(KEYS, 0))

    def test_no_documents(self):
        contents = make_contents([])
        self.assertEqual(counts(contents, make_corpus(contents)), dict.fromkeys(KEYS, 0))

    def test_what_is_returned_is_new(self):
        spoil(counts(CONTENTS, CORPUS))
        self.assertEqual(list(counts(CONTENTS, CORPUS)), KEYS)

    def test_random_contents(self):
        source = random.Random(26)
        for _ in range(150):
            contents = random_contents(source)
            corpus = make_corpus(contents)
            whole = dict.fromkeys(KEYS, 0)
            for at in range(len(contents.rules.sources)):
                own = counts(contents, corpus, at)
                fates = [fate(contents, corpus, number)[0] for number, given, _ in contents.documents if given == at]
                published = [words for _, given, _, words in corpus.published if given == at]
                self.assertEqual(own, {
                    "documents": len(fates), "dropped": fates.count("dropped"), "nothing": fates.count("nothing"),
                    "duplicates": fates.count("duplicate"), "kept": fates.count("kept"), "pieces": len(published),
                    "words": sum(map(len, published)), "codes": len(stream(corpus, at)),
                    "pages": sum(given == at for given, _ in corpus.pages),
                })
                self.assertEqual(sum(own[key] for key in KEYS[1:5]), own["documents"])
                whole = {key: whole[key] + own[key] for key in KEYS}
            self.assertEqual(counts(contents, corpus), whole)


if __name__ == "__main__":
    unittest.main()
