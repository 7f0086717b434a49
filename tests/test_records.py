"""[j1] the bytes of a deed, [j2] records."""

import random
import time
import unittest

from corpuskeep.errors import InvalidBytes
from corpuskeep.records import read_deed, read_record, write_deed, write_record
from tests.plain import plain_number, plain_sum
from tests.samples import FULL_TEXT, random_deed

CHARS = "\n" + "".join(chr(code) for code in range(32, 127) if code != 37)
DEEDS = [
    ("add", 5, "ab", "x\ny"), ("add", 999999, "school_2", ""), ("add", 0, "a", CHARS), ("replace", 128, "\n\n"),
    ("replace", 0, ""), ("remove", 300), ("remove", 0), ("rules", FULL_TEXT), ("rules", ""), ("exams", []),
    ("exams", [""]), ("exams", ["a\n", "", "bc", "a" * 200, "", "d"]), ("publish",),
]
KINDS = ["add", "replace", "remove", "rules", "exams", "publish"]


def plain_text(text):
    return plain_number(len(text)) + [0 if char == "\n" else ord(char) for char in text]


def plain_deed(deed):
    data = [KINDS.index(deed[0]) + 1]
    for part in deed[1:]:
        if isinstance(part, int):
            data += plain_number(part)
        elif isinstance(part, str):
            data += plain_text(part)
        else:
            data += plain_number(len(part)) + [byte for text in part for byte in plain_text(text)]
    return data


def plain_record(n, body):
    number = list(n.to_bytes(4, "little"))
    size = list(len(body).to_bytes(4, "little"))
    return size + plain_sum(number + size) + body + plain_sum(number + body)


class DeedsTest(unittest.TestCase):
    def test_the_bytes_of_each_kind(self):
        for deed, data in (
            (("add", 300, "ab", "x\n"), [1, 172, 2, 2, 97, 98, 2, 120, 0]), (("replace", 7, ""), [2, 7, 0]),
            (("remove", 128), [3, 128, 1]), (("rules", " ~"), [4, 2, 32, 126]),
            (("exams", ["a", "", "\n"]), [5, 3, 1, 97, 0, 1, 0]), (("exams", []), [5, 0]), (("publish",), [6]),
        ):
            self.assertEqual(write_deed(deed), data)
            self.assertEqual(read_deed(data), deed)

    def test_long_texts(self):
        self.assertEqual(write_deed(("rules", "a" * 2000))[:3], [4, 208, 15])

    def test_great_ids(self):
        for number in (127, 128, 16383, 16384, 999999, 10 ** 20):
            self.assertEqual(write_deed(("remove", number)), [3] + plain_number(number))
            self.assertEqual(read_deed([3] + plain_number(number)), ("remove", number))

    def test_reading_back(self):
        source = random.Random(40)
        for deed in DEEDS + [random_deed(source, [0, 7, 200, 70000]) for _ in range(200)]:
            data = write_deed(deed)
            self.assertEqual(data, plain_deed(deed))
            self.assertTrue(all(0 <= byte <= 255 for byte in data))
            self.assertEqual(read_deed(data), deed)

    def test_kinds_of_values(self):
        for deed in DEEDS:
            read = read_deed(write_deed(deed))
            self.assertEqual([type(part) for part in read], [type(part) for part in deed])
            self.assertIs(type(read), tuple)

    def test_a_byte_more(self):
        for deed in DEEDS:
            for byte in (0, 1, 6, 97, 128, 255):
                self.assert_invalid(write_deed(deed) + [byte])

    def test_cut_anywhere(self):
        for deed in DEEDS:
            data = write_deed(deed)
            for end in range(len(data)):
                self.assert_invalid(data[:end])

    def test_kinds_that_there_are_not(self):
        for kind in [0] + list(range(7, 256)):
            self.assert_invalid([kind])
            self.assert_invalid([kind, 5])
            self.assert_invalid([kind] + write_deed(DEEDS[0])[1:])

    def test_numbers_longer_than_needed(self):
        for data in ([3, 133, 0], [1, 133, 0, 1, 97, 0], [1, 5, 129, 0, 97, 0], [4, 129, 0, 97], [5, 129, 0, 0]):
            self.assert_invalid(data)

    def test_bytes_of_no_character(self):
        allowed = {0 if char == "\n" else ord(char) for char in CHARS}
        for byte in range(256):
            if byte in allowed:
                self.assertEqual(write_deed(read_deed([4, 1, byte])), [4, 1, byte])
            else:
                for data in ([4, 1, byte], [5, 1, 1, byte], [1, 5, 1, byte, 0], [2, 5, 2, 97, byte]):
                    self.assert_invalid(data)

    def test_counts_beyond_all_bounds_end_at_once(self):
        begin = time.perf_counter()
        for count in (10 ** 9, 2 ** 64, int("7" * 180)):
            for kind in (4, 5):
                self.assert_invalid([kind] + plain_number(count) + [97] * 50)
        self.assertLess(time.perf_counter() - begin, 1)

    def assert_invalid(self, data):
        with self.assertRaises(InvalidBytes) as caught:
            read_deed(data)
        self.assertEqual(caught.exception.at, 0)


class RecordsTest(unittest.TestCase):
    NUMBERS = [0, 1, 255, 256, 65535, 65536, 2 ** 24 - 1, 2 ** 24, 2 ** 24 + 7, 2 ** 32 - 1]
    BODIES = [[], [6], [7], list(range(256)) * 2, write_deed(DEEDS[0])]

    def test_the_parts_of_a_record(self):
        for n in self.NUMBERS:
            for body in self.BODIES:
                self.assertEqual(write_record(n, body), plain_record(n, body))

    def test_reading_back(self):
        for n in self.NUMBERS:
            for body in self.BODIES:
                data = write_record(n, body)
                self.assertEqual(read_record(data, 0, n), (body, len(data)))
                self.assertEqual(read_record([9, 9, 9] + data + [0, 1], 3, n), (body, 3 + len(data)))

    def test_the_number_is_in_both_check_sums(self):
        body = [1, 2, 3]
        first, second = write_record(0, body), write_record(1, body)
        self.assertEqual(first[:4], second[:4])
        self.assertEqual(first[8:11], second[8:11])
        self.assertNotEqual(first[4:8], second[4:8])
        self.assertNotEqual(first[11:], second[11:])
        # Neither check sum may be that of another number.
        self.assert_invalid(first[:4] + second[4:8] + first[8:], 0, 0)
        self.assert_invalid(first[:11] + second[11:], 0, 0)

    def test_another_number(self):
        for n in self.NUMBERS:
            for other in self.NUMBERS + [n + 1, n + 2]:
                if other != n:
                    self.assert_invalid(write_record(other, [1, 2]), 0, n)

    def test_a_changed_byte_at_each_place(self):
        for body in ([], [6], [1, 5, 1, 97, 0]):
            data = [3] + write_record(4, body) + [1, 2]
            for at in range(1, len(data) - 2):
                for byte in range(256):
                    if byte != data[at]:
                        self.assert_invalid(data[:at] + [byte] + data[at + 1:], 1, 4)

    def test_cut_anywhere(self):
        for body in self.BODIES:
            data = [3] + write_record(4, body)
            for end in range(len(data)):
                self.assert_invalid(data[:end], 1, 4)

    def test_a_number_of_bytes_beyond_the_data(self):
        size = [255, 255, 255, 255]
        data = size + plain_sum([0, 0, 0, 0] + size) + [1, 2, 3]
        self.assert_invalid(data + plain_sum([0, 0, 0, 0, 1, 2, 3]), 0, 0)

    def test_no_record_there(self):
        data = write_record(0, [6])
        self.assert_invalid([], 0, 0)
        self.assert_invalid(data, 1, 0)
        self.assert_invalid(data, len(data), 1)
        self.assert_invalid(data, len(data) + 5, 1)

    def assert_invalid(self, data, at, n):
        with self.assertRaises(InvalidBytes) as caught:
            read_record(data, at, n)
        self.assertEqual(caught.exception.at, at)


if __name__ == "__main__":
    unittest.main()
