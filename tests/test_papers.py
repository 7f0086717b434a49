"""[p1] what a certificate is, [p2] its bytes."""

import random
import time
import unittest

from corpuskeep.chains import told_chain
from corpuskeep.corpora import make_corpus
from corpuskeep.errors import InvalidBytes
from corpuskeep.learning import join_gains
from corpuskeep.papers import certificate, read_certificate, write_certificate
from tests.plain import plain_covers, plain_number, plain_told
from tests.samples import make_contents, random_contents

# 1 is kept, 2 is alike to 1 and 3 to 2 only, 4 has nothing left, 5 and 6 are dropped.
CONTENTS = make_contents(
    [(1, 0, "a b c d x y x"), (2, 1, "b c d e"), (3, 0, "c d e f"), (4, 0, "x y"), (5, 0, "q"), (6, 1, "7 42 r s 7")],
    ["x y", "y x y"], sources="sources s 1, t 2;", documents="documents least 2;", alike="alike 1 of 2, runs of 1;",
    shares="share digit 3: 0 of 1; share digit: 1 of 5;", joins="joins 2;",
)
PAPER = (
    [("kept",), ("chain", [2, 1]), ("chain", [3, 2, 1]), ("nothing",), ("short", 1), ("share", 1, 2)],
    [[None] * 4 + [(0, 0, 4), (0, 0, 4), (1, 0, 5)], [None] * 4, [None] * 4, [(0, 0, 0)] * 2],
    [],
)
ODD = (
    [("chain", []), ("short", 0), ("share", 300, 128), ("chain", [128, 0, 999999]), ("kept",), ("nothing",)],
    [[], [None], [(0, 0, 0), None, (128, 16384, 127)], []],
    [2, 300, 0],
)
EMPTY = ([], [], [])


def plain_bytes(paper):
    fates, covers, gains = paper
    data = plain_number(len(fates))
    for kind, *numbers in fates:
        data.append(["short", "share", "nothing", "chain", "kept"].index(kind))
        if kind == "chain":
            numbers = [len(numbers[0])] + numbers[0]
        for number in numbers:
            data += plain_number(number)
    data += plain_number(len(covers))
    for cover in covers:
        data += plain_number(len(cover))
        for told in cover:
            data += [0] if told is None else [1] + [byte for number in told for byte in plain_number(number)]
    data += plain_number(len(gains))
    for gain in gains:
        data += plain_number(gain)
    return data


class CertificateTest(unittest.TestCase):
    def test_each_kind_of_fate(self):
        fates, covers, gains = certificate(CONTENTS, make_corpus(CONTENTS))
        self.assertEqual(fates, [
            ("kept",), ("chain", [2, 1]), ("chain", [3, 2, 1]), ("nothing",), ("short", 1), ("share", 1, 2),
        ])

    def test_covers(self):
        fates, covers, gains = certificate(CONTENTS, make_corpus(CONTENTS))
        # The phrase x y covers the first two of the last three words, y x the last one.
        self.assertEqual(covers, [
            [None] * 4 + [(0, 0, 4), (0, 0, 4), (1, 0, 5)], [None] * 4, [None] * 4, [(0, 0, 0)] * 2,
        ])

    def test_the_first_standing_is_told(self):
        contents = make_contents([(1, 0, "a b a b c")], ["b c", "a b", "b a b a b"], phrases="phrases 2;")
        fates, covers, gains = certificate(contents, make_corpus(contents))
        self.assertEqual(covers, [[(1, 0, 0), (1, 0, 0), (2, 0, 1), (1, 0, 2), (0, 0, 3)]])

    def test_gains(self):
        contents = make_contents([(1, 0, "low low lower")], joins="joins 9;")
        self.assertEqual(certificate(contents, make_corpus(contents))[2], [3, 3, 2])
        contents = make_contents([(1, 0, "low low lower")], joins="joins 0;")
        self.assertEqual(certificate(contents, make_corpus(contents))[2], [])

    def test_no_documents(self):
        contents = make_contents([], ["a b"])
        self.assertEqual(certificate(contents, make_corpus(contents)), EMPTY)

    def test_kinds_of_values(self):
        paper = certificate(CONTENTS, make_corpus(CONTENTS))
        self.assertIs(type(paper), tuple)
        self.assertEqual([type(part) for part in paper], [list, list, list])
        self.assertEqual({type(told) for told in paper[0]}, {tuple})
        self.assertEqual({type(cover) for cover in paper[1]}, {list})
        self.assertEqual({type(told) for cover in paper[1] for told in cover}, {tuple, type(None)})

    def test_random_contents_against_the_definitions(self):
        source = random.Random(46)
        seen = {}
        for _ in range(300):
            contents = random_contents(source)
            corpus = make_corpus(contents)
            rules = contents.rules
            kept = dict(corpus.kept_for)
            fates = []
            for number, reason, words in corpus.cleaned:
                if reason:
                    fates.append(plain_told(rules, reason, words))
                elif number not in kept:
                    fates.append(("nothing",))
                elif kept[number] == number:
                    fates.append(("kept",))
                else:
                    share = (rules.run_words, rules.alike_least, rules.alike_of)
                    fates.append(("chain", told_chain(corpus.left, *share, number)))
                seen[fates[-1][0]] = seen.get(fates[-1][0], 0) + 1
            covers = [
                [told and (told[1], told[2], told[0]) for told in plain_covers(contents, words)]
                for _, reason, words in corpus.cleaned if not reason
            ]
            gains = join_gains(corpus.joins, [word for _, _, _, words in corpus.published for word in words])
            self.assertEqual(certificate(contents, corpus), (fates, covers, gains))
        self.assertEqual(len(seen), 5)
        self.assertGreater(min(seen.values()), 10)


class BytesTest(unittest.TestCase):
    def test_the_bytes(self):
        self.assertEqual(write_certificate(EMPTY), [0, 0, 0])
        self.assertEqual(write_certificate(ODD), [
            6, 3, 0, 0, 0, 1, 172, 2, 128, 1, 3, 3, 128, 1, 0, 191, 132, 61, 4, 2,
            4, 0, 1, 0, 3, 1, 0, 0, 0, 0, 1, 128, 1, 128, 128, 1, 127, 0,
            3, 2, 172, 2, 0,
        ])

    def test_reading_back(self):
        source = random.Random(47)
        papers = [PAPER, ODD, EMPTY]
        for _ in range(60):
            contents = random_contents(source)
            papers.append(certificate(contents, make_corpus(contents)))
        for paper in papers:
            data = write_certificate(paper)
            self.assertEqual(data, plain_bytes(paper))
            self.assertEqual(read_certificate(data), paper)

    def test_kinds_that_are_read(self):
        fates, covers, gains = read_certificate(write_certificate(ODD))
        self.assertEqual({type(told) for told in fates}, {tuple})
        self.assertEqual({type(told) for cover in covers for told in cover}, {tuple, type(None)})

    def test_cut_anywhere(self):
        for paper in (PAPER, ODD, EMPTY):
            data = write_certificate(paper)
            for end in range(len(data)):
                self.assert_invalid(data[:end])

    def test_a_byte_more(self):
        for paper in (PAPER, ODD, EMPTY):
            for byte in (0, 1, 4, 128, 255):
                self.assert_invalid(write_certificate(paper) + [byte])

    def test_kinds_that_there_are_not(self):
        for kind in range(5, 256):
            self.assert_invalid([1, kind, 0, 0, 0])
        for kind in range(2, 256):
            self.assert_invalid([0, 1, 1, kind, 0, 0, 0, 0])
            self.assert_invalid([0, 1, 1, kind, 0])

    def test_numbers_longer_than_needed(self):
        for data in (
            [128, 0, 0, 0], [0, 128, 0, 0], [0, 0, 128, 0], [1, 0, 133, 0, 0, 0], [1, 1, 5, 133, 0, 0, 0],
            [1, 3, 129, 0, 5, 0, 0], [1, 3, 1, 133, 0, 0, 0], [0, 1, 129, 0, 0, 0], [0, 1, 1, 1, 1, 2, 131, 0, 0],
            [0, 0, 1, 130, 0],
        ):
            self.assert_invalid(data)

    def test_a_kind_is_a_single_byte(self):
        self.assert_invalid([1, 132, 0, 0, 0])
        self.assert_invalid([0, 1, 1, 128, 0, 0])

    def test_counts_beyond_all_bounds_end_at_once(self):
        begin = time.perf_counter()
        for count in (10 ** 9, 2 ** 64, int("7" * 180)):
            many = plain_number(count)
            for data in (many, [0] + many, [0, 0] + many, [1, 3] + many, [0, 1] + many):
                self.assert_invalid(data + [0] * 60 + [9])
        self.assertLess(time.perf_counter() - begin, 1)

    def assert_invalid(self, data):
        with self.assertRaises(InvalidBytes) as caught:
            read_certificate(data)
        self.assertEqual(caught.exception.at, 0)


if __name__ == "__main__":
    unittest.main()
