"""[l1] what is compared, [l4] classes and kept documents, [l6] documents that meet."""

import random
import time
import unittest

from corpuskeep.classes import alike_pairs, group, kept_ids, meeting_pairs
from corpuskeep.shingles import compare

DOCUMENTS = [
    (1, [["a", "b", "c", "d"]]),
    (2, [["a", "b", "c", "e"]]),
    (3, [["x", "y", "z"]]),
    (5, [["b", "c", "e", "f"]]),
]


def pairs_of(documents):
    return [(one, other) for at, one in enumerate(documents) for other in documents[at + 1:]]


def plain_alike(documents, length, over, under):
    """The definition: compare all pairs."""
    found = []
    for (a, first), (b, second) in pairs_of(documents):
        alike, common, together = compare(first, second, length, over, under)
        if alike:
            found.append((a, b, common, together))
    return found


def plain_classes(documents, length, over, under):
    """The definition: go on from each document to all that are alike, until there is no further one."""
    near = {number: {number} for number, _ in documents}
    for a, b, _, _ in plain_alike(documents, length, over, under):
        near[a].add(b)
        near[b].add(a)
    classes = []
    for number in near:
        reached = {number}
        while True:
            further = {other for one in reached for other in near[one]}
            if further == reached:
                break
            reached = further
        if sorted(reached) not in classes:
            classes.append(sorted(reached))
    return classes


def random_documents(random_source, many):
    """Return documents with ascending ids and a few short pieces each."""
    ids = sorted(random_source.sample(range(1000), many))
    return [
        (number, [
            [random_source.choice("abc") for _ in range(random_source.randrange(1, 5))]
            for _ in range(random_source.randrange(1, 3))
        ])
        for number in ids
    ]


class MeetingTest(unittest.TestCase):
    def test_the_example(self):
        self.assertEqual(meeting_pairs(DOCUMENTS, 2), [(1, 2), (1, 5), (2, 5)])
        self.assertEqual(meeting_pairs(DOCUMENTS, 3), [(1, 2), (2, 5)])
        self.assertEqual(meeting_pairs(DOCUMENTS, 4), [])

    def test_documents_that_meet_but_are_not_alike(self):
        self.assertIn((1, 5), meeting_pairs(DOCUMENTS, 2))
        self.assertNotIn((1, 5), [(a, b) for a, b, _, _ in alike_pairs(DOCUMENTS, 2, 1, 2)])

    def test_each_pair_once_however_many_shingles_they_share(self):
        documents = [(7, [["a", "b"], ["a"], ["c"]]), (8, [["b", "a", "c"]])]
        self.assertEqual(meeting_pairs(documents, 1), [(7, 8)])

    def test_the_order_does_not_follow_the_shingles(self):
        documents = [(1, [["z"], ["a"]]), (2, [["b"], ["z"]]), (3, [["b"]]), (10, [["a"]])]
        self.assertEqual(meeting_pairs(documents, 1), [(1, 2), (1, 10), (2, 3)])

    def test_ids_are_ordered_as_numbers(self):
        documents = [(number, [["a"]]) for number in (0, 9, 10, 100, 999999)]
        self.assertEqual(meeting_pairs(documents, 1), [(a, b) for (a, _), (b, _) in pairs_of(documents)])

    def test_no_documents_and_one(self):
        self.assertEqual(meeting_pairs([], 1), [])
        self.assertEqual(meeting_pairs(DOCUMENTS[:1], 1), [])

    def test_a_short_piece_meets_only_an_equal_one(self):
        documents = [(1, [["a", "b"]]), (2, [["a", "b", "c"]]), (3, [["a", "b"], ["d"]])]
        self.assertEqual(meeting_pairs(documents, 3), [(1, 3)])


class AlikeTest(unittest.TestCase):
    def test_the_example(self):
        self.assertEqual(alike_pairs(DOCUMENTS, 2, 1, 2), [(1, 2, 2, 4), (2, 5, 2, 4)])

    def test_the_share_just_missed(self):
        self.assertEqual(alike_pairs(DOCUMENTS, 2, 501, 1000), [])
        self.assertEqual(alike_pairs(DOCUMENTS, 2, 1, 5), [(1, 2, 2, 4), (1, 5, 1, 5), (2, 5, 2, 4)])
        self.assertEqual(alike_pairs(DOCUMENTS, 2, 201, 1000), [(1, 2, 2, 4), (2, 5, 2, 4)])

    def test_documents_that_do_not_meet_are_not_alike(self):
        self.assertEqual(alike_pairs([(1, [["a"]]), (2, [["b"]])], 1, 1, 1000), [])

    def test_equal_documents(self):
        documents = [(4, [["a", "b"], ["c"]]), (6, [["c"], ["a", "b"]])]
        self.assertEqual(alike_pairs(documents, 2, 1, 1), [(4, 6, 2, 2)])


class GroupTest(unittest.TestCase):
    def test_a_chain_whose_ends_are_not_alike(self):
        self.assertEqual(group(DOCUMENTS, 2, 1, 2), [[1, 2, 5], [3]])
        self.assertEqual(kept_ids(DOCUMENTS, 2, 1, 2), {1: 1, 2: 1, 3: 3, 5: 1})

    def test_without_the_document_between_them(self):
        documents = [DOCUMENTS[0], DOCUMENTS[2], DOCUMENTS[3]]
        self.assertEqual(group(documents, 2, 1, 2), [[1], [3], [5]])
        self.assertEqual(kept_ids(documents, 2, 1, 2), {1: 1, 3: 3, 5: 5})

    def test_one_more_document_joins_two_classes(self):
        documents = [(1, [["a"], ["b"]]), (2, [["x"], ["y"]]), (3, [["a"], ["c"]]), (4, [["x"], ["z"]])]
        self.assertEqual(group(documents, 1, 1, 3), [[1, 3], [2, 4]])
        further = documents + [(9, [["c"], ["z"]])]
        self.assertEqual(group(further, 1, 1, 3), [[1, 2, 3, 4, 9]])
        self.assertEqual(kept_ids(further, 1, 1, 3), {1: 1, 2: 1, 3: 1, 4: 1, 9: 1})

    def test_one_more_document_with_the_least_id_is_kept(self):
        documents = [(0, [["b", "c", "e", "f"]])] + DOCUMENTS
        self.assertEqual(group(documents, 2, 1, 2), [[0, 1, 2, 5], [3]])
        self.assertEqual(kept_ids(documents, 2, 1, 2), {0: 0, 1: 0, 2: 0, 3: 3, 5: 0})

    def test_the_classes_are_ordered_by_their_first_ids(self):
        documents = [(1, [["c"]]), (2, [["b"]]), (3, [["a"]]), (4, [["a"]]), (10, [["b"]]), (20, [["c"]])]
        self.assertEqual(group(documents, 1, 1, 1), [[1, 20], [2, 10], [3, 4]])

    def test_classes_that_grow_together_late(self):
        # 5 and 6 are found to belong together before 5 is found to belong to 1.
        documents = [(1, [["a"], ["d"]]), (5, [["b"], ["c"]]), (6, [["c"], ["b"]]), (7, [["c"], ["d"]])]
        self.assertEqual(group(documents, 1, 1, 3), [[1, 5, 6, 7]])

    def test_no_documents(self):
        self.assertEqual(group([], 1, 1, 1), [])
        self.assertEqual(kept_ids([], 1, 1, 1), {})
        self.assertEqual(alike_pairs([], 1, 1, 1), [])

    def test_random_documents_against_the_definitions(self):
        source = random.Random(5)
        for _ in range(400):
            documents = random_documents(source, source.randrange(9))
            length = source.randrange(1, 4)
            over = source.randrange(1, 5)
            under = over + source.randrange(4)
            pairs = plain_alike(documents, length, over, under)
            classes = plain_classes(documents, length, over, under)
            kept = {number: own[0] for own in classes for number in own}
            self.assertEqual(alike_pairs(documents, length, over, under), pairs)
            self.assertEqual(group(documents, length, over, under), classes)
            self.assertEqual(kept_ids(documents, length, over, under), kept)
            meeting = [(a, b) for (a, one), (b, other) in pairs_of(documents) if compare(one, other, length, 1, 1)[1]]
            self.assertEqual(meeting_pairs(documents, length), meeting)
            self.assertLessEqual({(a, b) for a, b, _, _ in pairs}, set(meeting))


class SpeedTest(unittest.TestCase):
    def test_at_the_bounds(self):
        words = [str(at * at + at // 7) for at in range(1600)]
        begin = time.perf_counter()
        for length in (1, 20):
            equal = [(number, [words]) for number in range(24)]
            self.assertEqual(len(meeting_pairs(equal, length)), 276)
            self.assertEqual(len(alike_pairs(equal, length, 1000, 1000)), 276)
            self.assertEqual(group(equal, length, 1, 1), [list(range(24))])
            same = [(number, [["a"] * (1577 + number)]) for number in range(24)]
            self.assertEqual(kept_ids(same, length, 1, 1), {number: 0 for number in range(24)})
            single = [(number, [[word] for word in words]) for number in range(24)]
            self.assertEqual(len(alike_pairs(single, length, 1, 1)), 276)
        self.assertLess(time.perf_counter() - begin, 5)


if __name__ == "__main__":
    unittest.main()
