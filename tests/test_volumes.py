"""[w5] numbers and check sums as bytes, [w6] the bytes of a volume."""

import random
import time
import unittest

from corpuskeep.errors import InvalidBytes
from corpuskeep.volumes import check_sum, read_number, read_volume, write_number, write_volume
from tests.plain import plain_number, plain_sum

GREAT = int("7" * 180)
PAGES = [(0, [5, 300, 0]), (1, []), (200, [20000, 1, 0, 0]), (3, [GREAT])]


def sealed(body):
    """Return the bytes with their right check sum."""
    return body + plain_sum(body)


def plain_volume(pages):
    body = plain_number(len(pages))
    for source, codes in pages:
        for number in [source, len(codes)] + codes:
            body += plain_number(number)
    return sealed(body)


class NumbersTest(unittest.TestCase):
    def test_the_example(self):
        self.assertEqual(write_number(300), [172, 2])

    def test_the_numbers_around_powers_of_the_base(self):
        for n, data in (
            (0, [0]), (1, [1]), (127, [127]), (128, [128, 1]), (129, [129, 1]), (255, [255, 1]), (256, [128, 2]),
            (16383, [255, 127]), (16384, [128, 128, 1]), (128 ** 3 - 1, [255, 255, 127]),
        ):
            self.assertEqual(write_number(n), data)
            self.assertEqual(read_number(data, 0), (n, len(data)))

    def test_reading_back(self):
        for n in list(range(3000)) + [128 ** k + d for k in range(2, 40) for d in (-1, 0, 1)] + [GREAT]:
            data = write_number(n)
            self.assertEqual(data, plain_number(n))
            self.assertTrue(all(0 <= byte <= 255 for byte in data))
            self.assertEqual(read_number(data, 0), (n, len(data)))
            self.assertEqual(read_number([9, 200] + data + [0, 255], 2), (n, 2 + len(data)))

    def test_a_number_of_180_digits(self):
        self.assertEqual(len(str(GREAT)), 180)
        self.assertEqual(read_number(write_number(GREAT), 0), (GREAT, 86))

    def test_a_number_that_is_cut(self):
        for n in (128, 16384, GREAT):
            data = [1, 2] + write_number(n)
            for end in range(2, len(data)):
                self.assert_invalid(data[:end], 2)

    def test_no_bytes_at_all(self):
        self.assert_invalid([], 0)
        self.assert_invalid([5], 1)
        self.assert_invalid([5], 3)

    def test_a_needless_last_byte(self):
        self.assert_invalid([128, 0], 0)
        self.assert_invalid([1, 255, 0], 1)
        self.assert_invalid([1, 255, 128, 0, 7], 1)
        self.assertEqual(read_number([1, 0, 128], 1), (0, 2))
        self.assertEqual(read_number([128, 128, 1], 0), (16384, 3))

    def assert_invalid(self, data, at):
        with self.assertRaises(InvalidBytes) as caught:
            read_number(data, at)
        self.assertEqual(caught.exception.at, at)


class SumTest(unittest.TestCase):
    def test_no_bytes(self):
        self.assertEqual(check_sum([]), 5381)

    def test_one_byte(self):
        self.assertEqual(check_sum([0]), 5381 * 257 + 1)
        self.assertEqual(check_sum([255]), 5381 * 257 + 256)

    def test_the_remainder(self):
        self.assertEqual(check_sum([0, 0]), (5381 * 257 + 1) * 257 + 1)
        self.assertEqual(check_sum([0] * 3), ((5381 * 257 + 1) * 257 + 1) * 257 + 1 - 21 * 2 ** 32)

    def test_leading_zeros_count(self):
        self.assertNotEqual(check_sum([0, 7]), check_sum([7]))

    def test_the_order_counts(self):
        self.assertNotEqual(check_sum([1, 2]), check_sum([2, 1]))

    def test_one_byte_changed(self):
        data = [3, 0, 255, 17, 128, 9, 9, 9]
        for at in range(len(data)):
            sums = {check_sum(data[:at] + [byte] + data[at + 1:]) for byte in range(256)}
            self.assertEqual(len(sums), 256)

    def test_random_bytes_against_the_definition(self):
        source = random.Random(20)
        for size in range(60):
            data = [source.randrange(256) for _ in range(size)]
            self.assertEqual(list(check_sum(data).to_bytes(4, "little")), plain_sum(data))


class VolumeTest(unittest.TestCase):
    def test_the_example(self):
        pages = [(0, [5, 300, 0]), (1, [])]
        data = [2, 0, 3, 5, 172, 2, 0, 1, 0, 199, 88, 109, 172]
        self.assertEqual(write_volume(pages), data)
        self.assertEqual(read_volume(data), pages)

    def test_no_pages(self):
        self.assertEqual(write_volume([]), sealed([0]))
        self.assertEqual(read_volume(sealed([0])), [])

    def test_pages_without_codes(self):
        self.assertEqual(write_volume([(3, []), (0, [])]), sealed([2, 3, 0, 0, 0]))
        self.assertEqual(read_volume(sealed([2, 3, 0, 0, 0])), [(3, []), (0, [])])

    def test_several_bytes(self):
        self.assertEqual(write_volume([(128, [16384, 129])]), sealed([1, 128, 1, 2, 128, 128, 1, 129, 1]))

    def test_many_pages_and_codes(self):
        pages = [(1, list(range(300)))] * 200
        self.assertEqual(write_volume(pages)[:2], [200, 1])
        self.assertEqual(read_volume(write_volume(pages)), pages)

    def test_reading_back(self):
        source = random.Random(21)
        for _ in range(100):
            pages = [
                (source.randrange(4), [source.randrange(231) for _ in range(source.randrange(9))])
                for _ in range(source.randrange(6))
            ]
            self.assertEqual(write_volume(pages), plain_volume(pages))
            self.assertEqual(read_volume(write_volume(pages)), pages)
        self.assertEqual(read_volume(write_volume(PAGES)), PAGES)

    def test_one_byte_changed(self):
        data = write_volume(PAGES[:3])
        for at in range(len(data)):
            for byte in range(256):
                if byte != data[at]:
                    self.assert_invalid(data[:at] + [byte] + data[at + 1:])

    def test_cut_anywhere(self):
        data = write_volume(PAGES)
        for end in range(len(data)):
            self.assert_invalid(data[:end])
            self.assert_invalid(sealed(data[:-4][:end]) if end < len(data) - 4 else data[:end])

    def test_bytes_more(self):
        data = write_volume(PAGES)
        for byte in range(256):
            self.assert_invalid(data + [byte])
            self.assert_invalid(sealed(data[:-4] + [byte]))
        self.assert_invalid([0] + data)

    def test_a_number_longer_than_needed_under_a_right_check_sum(self):
        self.assertEqual(read_volume(sealed([1, 2, 1, 5])), [(2, [5])])
        for body in ([129, 0, 2, 1, 5], [1, 130, 0, 1, 5], [1, 2, 129, 0, 5], [1, 2, 1, 133, 0]):
            self.assert_invalid(sealed(body))

    def test_wrong_counts_under_a_right_check_sum(self):
        self.assertEqual(read_volume(sealed([2, 2, 1, 5, 3, 0])), [(2, [5]), (3, [])])
        for body in (
            [1, 2, 1, 5, 3, 0], [3, 2, 1, 5, 3, 0], [0, 2, 1, 5, 3, 0], [2, 2, 0, 5, 3, 0], [2, 2, 9, 5, 3, 0],
            [2, 2, 1, 5, 3, 1], [0, 0], [], [1], [1, 2],
        ):
            self.assert_invalid(sealed(body))

    def test_counts_beyond_all_bounds_end_at_once(self):
        begin = time.perf_counter()
        for count in (10 ** 9, 2 ** 64, GREAT):
            self.assert_invalid(sealed(plain_number(count)))
            self.assert_invalid(sealed([1, 0] + plain_number(count) + [5] * 100))
        self.assertLess(time.perf_counter() - begin, 1)

    def test_fewer_bytes_than_a_check_sum(self):
        for data in ([], [0], [5, 21], [0, 0, 0], plain_sum([])):
            self.assert_invalid(data)

    def assert_invalid(self, data):
        with self.assertRaises(InvalidBytes) as caught:
            read_volume(data)
        self.assertEqual(caught.exception.at, 0)


if __name__ == "__main__":
    unittest.main()
