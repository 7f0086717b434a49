"""[w1] to [w3] the order of pages."""

import fractions
import itertools
import random
import time
import unittest

from corpuskeep.order import due, fair, phases


def plain_due(total, weight, placed):
    """The definition: try one integer after the other."""
    turn = 0
    while not (placed + 1) * total <= weight * turn:
        turn += 1
    return turn


def plain_phases(weights, counts):
    """The definition, turn by turn."""
    left = list(counts)
    order = []
    while any(left):
        active = [source for source in range(len(left)) if left[source]]
        total = sum(weights[source] for source in active)
        phase = []
        while not phase or left[phase[-1]]:
            may = [
                source for source in active
                if fractions.Fraction(phase.count(source)) < fractions.Fraction(weights[source] * (len(phase) + 1), total)
            ]
            following = min(
                may, key=lambda source: (plain_due(total, weights[source], phase.count(source)), source)
            )
            phase.append(following)
            left[following] -= 1
        order.append(phase)
    return order


def plain_fair(weights, counts, phase):
    active = [source for source, many in enumerate(counts) if many]
    total = sum(weights[source] for source in active)
    return all(
        phase[:turn].count(source) * total < weights[source] * turn + total
        and weights[source] * turn < phase[:turn].count(source) * total + total
        for turn in range(len(phase) + 1) for source in active
    )


class DueTest(unittest.TestCase):
    def test_the_example(self):
        self.assertEqual(due(3, 2, 1), 3)

    def test_the_least_integer(self):
        self.assertEqual(due(3, 2, 0), 2)
        self.assertEqual(due(4, 2, 0), 2)
        self.assertEqual(due(5, 2, 0), 3)
        self.assertEqual(due(1, 1, 0), 1)
        self.assertEqual(due(8000, 1, 9), 80000)

    def test_small_numbers_against_the_definition(self):
        for total, weight, placed in itertools.product(range(1, 14), range(1, 14), range(8)):
            self.assertEqual(due(total, weight, placed), plain_due(total, weight, placed))


class PhasesTest(unittest.TestCase):
    def test_the_examples(self):
        self.assertEqual(phases([2, 1], [4, 2]), [[0, 0, 1, 0, 0], [1]])
        self.assertEqual(phases([1, 1, 1], [1, 2, 3]), [[0], [1, 2, 1], [2, 2]])

    def test_no_pages(self):
        self.assertEqual(phases([3], [0]), [])
        self.assertEqual(phases([1, 2, 3], [0, 0, 0]), [])

    def test_sources_without_pages(self):
        self.assertEqual(phases([5, 1, 7], [0, 3, 0]), [[1, 1, 1]])
        self.assertEqual(phases([1, 1000, 1], [2, 0, 2]), [[0, 2, 0], [2]])

    def test_equal_weights(self):
        self.assertEqual(phases([4, 4, 4], [2, 2, 2]), [[0, 1, 2, 0], [1], [2]])
        self.assertEqual(phases([4, 4, 4], [3, 2, 9]), [[0, 1, 2, 0, 1], [0], [2] * 8])
        self.assertEqual(phases([9] * 8, [1] * 8), [[source] for source in range(8)])

    def test_a_phase_ends_with_the_first_source_that_runs_out(self):
        # The total weight of the second phase is that of the sources that are left.
        self.assertEqual(phases([1, 2, 1], [1, 9, 2]), [[1, 0], [1, 1, 2, 1, 1, 2], [1, 1, 1, 1]])
        self.assertEqual(phases([1, 1], [1, 1]), [[0], [1]])

    def test_a_later_source_that_is_due_earlier(self):
        self.assertEqual(phases([1, 3], [5, 3]), [[1, 1, 0, 1], [0, 0, 0, 0]])

    def test_a_source_that_has_its_share_waits(self):
        # At the third page source 2 would be due first, but it may not have the page: 2 * 6 < 4 * 3 does not hold.
        self.assertEqual(phases([1, 1, 4], [4, 4, 4]), [[2, 2, 0, 2, 1, 2], [0, 1, 0, 1, 0], [1]])
        self.assertEqual(phases([1, 4, 3], [4, 4, 4]), [[1, 2, 1, 2, 1, 0, 1], [2, 2], [0, 0, 0]])

    def test_the_numbers_of_pages_are_kept(self):
        order = phases([7, 3, 1000], [11, 5, 2])
        pages = [source for phase in order for source in phase]
        self.assertEqual([pages.count(source) for source in range(3)], [11, 5, 2])

    def test_small_cases_against_the_definition(self):
        for weights in itertools.product((1, 2, 5), repeat=3):
            for counts in itertools.product(range(4), repeat=3):
                order = phases(list(weights), list(counts))
                self.assertEqual(order, plain_phases(weights, counts), (weights, counts))

    def test_random_cases_against_the_definition(self):
        source = random.Random(16)
        for _ in range(300):
            many = source.randrange(1, 9)
            weights = [source.choice((1, 2, 3, 17, 999, 1000)) for _ in range(many)]
            counts = [source.choice((0, 1, 2, 9, 14)) for _ in range(many)]
            self.assertEqual(phases(weights, counts), plain_phases(weights, counts), (weights, counts))

    def test_each_phase_is_fair(self):
        source = random.Random(17)
        for _ in range(200):
            many = source.randrange(1, 9)
            weights = [source.randrange(1, source.choice((3, 30, 1001))) for _ in range(many)]
            left = [source.randrange(30) for _ in range(many)]
            for phase in phases(weights, left):
                self.assertIs(fair(weights, left, phase), True)
                left = [pages - phase.count(at) for at, pages in enumerate(left)]
            self.assertEqual(left, [0] * many)


class FairTest(unittest.TestCase):
    def test_rows_of_active_sources(self):
        self.assertIs(fair([2, 1], [4, 2], [0, 0, 1, 0, 0]), True)
        self.assertIs(fair([2, 1], [4, 2], [1, 0, 0]), True)
        self.assertIs(fair([2, 1], [4, 2], [0, 0, 0]), False)
        self.assertIs(fair([2, 1], [4, 2], [1, 0, 1]), False)

    def test_each_beginning_counts(self):
        # The whole row has just the shares, but not the first two pages of it.
        self.assertIs(fair([1, 1], [2, 2], [0, 0, 1, 1]), False)
        self.assertIs(fair([1, 1], [2, 2], [0, 1, 1, 0]), True)

    def test_just_one_page_off(self):
        # Source 0 has 2 pages of two, and its share is 1.
        self.assertIs(fair([1, 1], [3, 3], [0, 0]), False)
        self.assertIs(fair([1, 1], [3, 3], [0]), True)
        # Source 0 has no page of three, and its share is 1.
        self.assertIs(fair([1, 2], [3, 3], [1, 1, 1]), False)
        self.assertIs(fair([1, 2], [3, 3], [1, 1]), True)

    def test_above_the_share_only(self):
        # At the second page source 0 has 2 pages, and its share is 1, while all others have less than theirs.
        self.assertIs(fair([2, 1, 1], [9, 9, 9], [0, 0]), False)
        self.assertIs(fair([201, 100, 99], [9, 9, 9], [0, 0]), True)
        self.assertIs(fair([2, 8], [9, 9], [0, 1, 1]), True)

    def test_below_the_share_only(self):
        # No source has a page more than its share, but source 0 has none of three, and its share is 1.
        self.assertIs(fair([3, 3, 3, 3], [9, 9, 9, 9], [1, 2, 3, 0]), True)
        self.assertIs(fair([4, 2, 2, 2, 2], [9] * 5, [1, 2, 3]), False)
        self.assertIs(fair([4, 2, 2, 2, 2], [9] * 5, [1, 2, 0]), True)

    def test_sources_without_pages_play_no_part(self):
        self.assertIs(fair([1, 1000, 1], [2, 0, 2], [0, 2, 0]), True)
        self.assertIs(fair([1, 1000, 1], [2, 1, 2], [0, 2, 0]), False)

    def test_the_empty_phase(self):
        self.assertIs(fair([1, 2], [3, 3], []), True)
        self.assertIs(fair([1, 2], [0, 0], []), True)

    def test_one_source(self):
        self.assertIs(fair([5], [4], [0, 0, 0, 0]), True)

    def test_small_rows_against_the_definition(self):
        found = []
        for weights in ([1, 1], [1, 2], [3, 1], [2, 2, 1], [1, 1, 1]):
            for size in range(6):
                for phase in itertools.product(range(len(weights)), repeat=size):
                    counts = [5] * len(weights)
                    found.append(fair(weights, counts, list(phase)))
                    self.assertEqual(found[-1], plain_fair(weights, counts, phase), (weights, phase))
        self.assertIn(True, found)
        self.assertIn(False, found)


class SpeedTest(unittest.TestCase):
    def test_many_pages(self):
        begin = time.perf_counter()
        order = phases([1, 3, 100, 7], [20000] * 4)
        self.assertEqual(sum(len(phase) for phase in order), 80000)
        self.assertTrue(fair([1, 3, 100, 7], [20000] * 4, order[0]))
        self.assertEqual(len(phases([1000] * 8, [10000] * 8)), 8)
        self.assertLess(time.perf_counter() - begin, 5)


if __name__ == "__main__":
    unittest.main()
