"""[w7] what stands at each place of each page, and the places of each published word."""

import random
import time
import unittest

from corpuskeep.corpora import make_corpus
from corpuskeep.errors import OutOfRange
from corpuskeep.positions import places_of, position
from tests.plain import plain_codes
from tests.samples import make_contents, random_contents


def plain_positions(corpus):
    """Return a dict from each (page, place) to what stands there, and a dict of the words of each document."""
    marks = {}
    for number, source, first, words in corpus.published:
        own = marks.setdefault(source, [])
        for offset, word in enumerate(words):
            own += [(number, first + offset, word)] * len(plain_codes(corpus.joins, word))
        own.append((number, first + len(words), None))
    found = {}
    words_of = {}
    for page, (source, codes) in enumerate(corpus.pages):
        for place in range(len(codes)):
            mark = marks[source].pop(0) if marks[source] else None
            found[page, place] = mark
            if mark and mark[2] is not None:
                words_of.setdefault(mark[0], {}).setdefault(mark[1:], []).append((page, place))
    return found, words_of


# Documents 1 and 4 are published under source 0, 2 under source 1; 3 is a duplicate of 1, 5 is dropped.
CONTENTS = make_contents(
    [(1, 0, "the cat saw x y the old dog"), (2, 1, "a"), (3, 1, "the cat saw x y the old dog"), (4, 0, "one two"),
     (5, 0, "")],
    ["x y"], sources="sources s 2, t 1, u 1;", pages="pages 5;", joins="joins 2;",
)
CORPUS = make_corpus(CONTENTS)


class ExampleTest(unittest.TestCase):
    def test_the_corpus_of_the_example(self):
        self.assertEqual([row[:3] for row in CORPUS.published], [(1, 0, 0), (1, 0, 5), (2, 1, 0), (4, 0, 0)])
        self.assertEqual(CORPUS.joins, [(103, 34), (106, 200)])
        self.assertEqual(len(CORPUS.pages), 7)

    def test_the_places_of_a_source_in_order(self):
        row = [
            position(CORPUS, page, place) for page, (source, codes) in enumerate(CORPUS.pages) if source == 0
            for place in range(len(codes))
        ]
        the = [(1, 0, "the")] * 2
        self.assertEqual(row, the + [(1, 1, "cat")] * 4 + [(1, 2, "saw")] * 4 + [(1, 3, None)] + [(1, 5, "the")] * 2
                         + [(1, 6, "old")] * 4 + [(1, 7, "dog")] * 4 + [(1, 8, None)]
                         + [(4, 0, "one")] * 3 + [(4, 1, "two")] * 4 + [(4, 2, None)])

    def test_a_page_of_another_source(self):
        page = [source for source, codes in CORPUS.pages].index(1)
        self.assertEqual(CORPUS.pages[page][1], [99, 34, 1, 0, 0])
        row = [position(CORPUS, page, place) for place in range(5)]
        self.assertEqual(row, [(2, 0, "a")] * 2 + [(2, 1, None), None, None])

    def test_places_of_a_published_document(self):
        found = places_of(CORPUS, 1)
        self.assertEqual([row[:2] for row in found], [
            (0, "the"), (1, "cat"), (2, "saw"), (5, "the"), (6, "old"), (7, "dog"),
        ])
        for place, word, codes in found:
            self.assertEqual([CORPUS.pages[page][1][at] for page, at in codes], plain_codes(CORPUS.joins, word))
            self.assertEqual({position(CORPUS, *spot) for spot in codes}, {(1, place, word)})
        self.assertEqual(found[0], (0, "the", [(0, 0), (0, 1)]))

    def test_places_of_a_later_document_of_the_source(self):
        self.assertEqual([row[:2] for row in places_of(CORPUS, 4)], [(0, "one"), (1, "two")])

    def test_nothing_published(self):
        for number in (3, 5, 0, 6, 999999):
            self.assertEqual(places_of(CORPUS, number), [])

    def test_no_pages(self):
        corpus = make_corpus(make_contents([]))
        self.assertEqual(places_of(corpus, 0), [])
        self.assert_out_of_range(corpus, 0, 0)

    def test_no_such_page(self):
        for page in (-1, -7, 7, 8, 10 ** 6):
            for place in (0, 4, 5, -1):
                self.assert_out_of_range(CORPUS, page, place)

    def test_no_such_place(self):
        for page in range(7):
            for place in (-1, -5, 5, 6, 10 ** 6):
                self.assert_out_of_range(CORPUS, page, place)

    def test_kinds(self):
        for place, word, codes in places_of(CORPUS, 1):
            self.assertEqual([type(place), type(word), type(codes)], [int, str, list])
            self.assertEqual({type(spot) for spot in codes}, {tuple})
        self.assertIs(type(position(CORPUS, 0, 0)), tuple)

    def assert_out_of_range(self, corpus, page, place):
        with self.assertRaises(OutOfRange):
            position(corpus, page, place)


class RandomTest(unittest.TestCase):
    def test_each_place_of_each_page_and_each_document(self):
        source = random.Random(22)
        seen = 0
        for _ in range(150):
            contents = random_contents(source)
            corpus = make_corpus(contents)
            found, words_of = plain_positions(corpus)
            for (page, place), mark in found.items():
                self.assertEqual(position(corpus, page, place), mark)
            for number, _, _ in contents.documents:
                wanted = [(place, word, codes) for (place, word), codes in words_of.get(number, {}).items()]
                self.assertEqual(places_of(corpus, number), wanted)
                seen += len(wanted)
        self.assertGreater(seen, 500)


class SpeedTest(unittest.TestCase):
    def test_at_the_bounds(self):
        source = random.Random(23)
        documents = [
            (number, number % 4, "".join(source.choice("cdefgh ") for _ in range(400))) for number in range(24)
        ]
        contents = make_contents(
            documents, sources="sources s 2, t 1, u 1, v 100;", joins="joins 30;", pages="pages 1;",
            changes='change "c" to "c d e f"; change "h" to "h i j k";',
        )
        corpus = make_corpus(contents)
        self.assertGreater(len(corpus.pages), 5000)
        begin = time.perf_counter()
        for page in range(0, len(corpus.pages), 20):
            position(corpus, page, 0)
        for number in range(24):
            places_of(corpus, number)
        self.assertLess(time.perf_counter() - begin, 8)


if __name__ == "__main__":
    unittest.main()
