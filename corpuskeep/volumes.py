"""Writes numbers and pages as bytes, and reads them back."""

from corpuskeep.errors import InvalidBytes

BASE = 128
SUM_START = 5381
SUM_FACTOR = 257
SUM_LIMIT = 4294967296
FOUR = 4


def write_number(n):
    """Return the bytes of a number from 0 on, in its shortest form."""
    data = []
    rest = n
    while rest >= BASE:
        data.append(rest % BASE + BASE)
        rest = rest // BASE
    data.append(rest)
    return data


def read_number(data, at):
    """Return a tuple (number, next index). Raises InvalidBytes(at) if no number in its shortest form begins there."""
    end = at
    while end < len(data) and data[end] >= BASE:
        end += 1
    # A last digit 0 behind other digits would be needless.
    if end >= len(data) or (end > at and data[end] == 0):
        raise InvalidBytes(at)
    number = 0
    for byte in reversed(data[at:end + 1]):
        number = number * BASE + byte % BASE
    return (number, end + 1)


def write_numbers(numbers):
    """Return the bytes of how many numbers there are, and of each of them."""
    data = write_number(len(numbers))
    for number in numbers:
        data.extend(write_number(number))
    return data


def write_four(n):
    """Return the number as four bytes, the lowest first."""
    return [n % 256, n // 256 % 256, n // 65536 % 256, n // 16777216 % 256]


def check_sum(data):
    """Return the check sum of bytes."""
    total = SUM_START
    for byte in data:
        total = (SUM_FACTOR * total + byte + 1) % SUM_LIMIT
    return total


def sum_bytes(data):
    """Return the check sum of bytes as four bytes."""
    return write_four(check_sum(data))


class ByteReader:
    """Goes through bytes; whatever does not stand where it should raises InvalidBytes with the index 0."""

    def __init__(self, data):
        self.data = data
        self.at = 0

    def take_byte(self, least, most):
        """Take a byte from `least` to `most`."""
        if self.at >= len(self.data) or not least <= self.data[self.at] <= most:
            raise InvalidBytes(0)
        self.at += 1
        return self.data[self.at - 1]

    def take_number(self):
        try:
            number, behind = read_number(self.data, self.at)
        except InvalidBytes:
            raise InvalidBytes(0) from None
        self.at = behind
        return number

    def take_numbers(self):
        """Take a number, and as many numbers as it says."""
        numbers = []
        # However great the number is: each turn takes a byte at least, or ends the reading.
        for _ in range(self.take_number()):
            numbers.append(self.take_number())
        return numbers

    def take_end(self):
        if self.at < len(self.data):
            raise InvalidBytes(0)


def write_volume(pages):
    """Return the bytes of a volume of these pages."""
    data = write_number(len(pages))
    for source, codes in pages:
        data.extend(write_number(source))
        data.extend(write_numbers(codes))
    return data + sum_bytes(data)


def read_volume(data):
    """Return the pages of a volume. Raises InvalidBytes(0) if the bytes are not exactly a volume."""
    body = data[:-FOUR]
    if data[-FOUR:] != sum_bytes(body):
        raise InvalidBytes(0)
    reader = ByteReader(body)
    pages = []
    for _ in range(reader.take_number()):
        source = reader.take_number()
        pages.append((source, reader.take_numbers()))
    reader.take_end()
    return pages
