"""Writes deeds as bytes and as records, and reads them back."""

from corpuskeep.errors import InvalidBytes
from corpuskeep.reading import CHARS
from corpuskeep.volumes import FOUR, ByteReader, sum_bytes, write_four, write_number

# The kinds of deeds in the order of their bytes, from 1 on, with the kinds of their parts.
DEEDS = (
    ("add", ("number", "text", "text")),
    ("replace", ("number", "text")),
    ("remove", ("number",)),
    ("rules", ("text",)),
    ("exams", ("texts",)),
    ("publish", ()),
)
NEWLINE_BYTE = 0


def char_byte(char):
    return NEWLINE_BYTE if char == "\n" else ord(char)


def write_text(text):
    return write_number(len(text)) + [char_byte(char) for char in text]


def write_part(kind, part):
    """Return the bytes of one part of a deed."""
    if kind == "number":
        return write_number(part)
    if kind == "text":
        return write_text(part)
    data = write_number(len(part))
    for text in part:
        data.extend(write_text(text))
    return data


def write_deed(deed):
    """Return the bytes of a deed."""
    index = [name for name, kinds in DEEDS].index(deed[0])
    data = [index + 1]
    for kind, part in zip(DEEDS[index][1], deed[1:]):
        data.extend(write_part(kind, part))
    return data


def read_text(reader):
    chars = {char_byte(char): char for char in CHARS}
    text = []
    for _ in range(reader.take_number()):
        byte = reader.take_byte(NEWLINE_BYTE, max(chars))
        if byte not in chars:
            raise InvalidBytes(0)
        text.append(chars[byte])
    return "".join(text)


def read_part(reader, kind):
    if kind == "number":
        return reader.take_number()
    if kind == "text":
        return read_text(reader)
    return [read_text(reader) for _ in range(reader.take_number())]


def read_deed(data):
    """Return the deed of exactly these bytes. Raises InvalidBytes(0)."""
    reader = ByteReader(data)
    name, kinds = DEEDS[reader.take_byte(1, len(DEEDS)) - 1]
    parts = [read_part(reader, kind) for kind in kinds]
    reader.take_end()
    return (name, *parts)


def numbered_sum(n, data):
    """Return the check sum of the number of a record and of bytes, as four bytes."""
    return sum_bytes(write_four(n) + data)


def write_record(n, body):
    """Return the bytes of the record with the number n."""
    size = write_four(len(body))
    return size + numbered_sum(n, size) + body + numbered_sum(n, body)


def record_end(data, at):
    """Return the index behind the record that begins there, by the number of the bytes of its body."""
    size = 0
    for byte in reversed(data[at:at + FOUR]):
        size = size * 256 + byte
    return at + 3 * FOUR + size


def read_record(data, at, n):
    """Return a tuple (body, next index). Raises InvalidBytes(at) if no whole valid record n begins there."""
    start = at + 2 * FOUR
    size = data[at:at + FOUR]
    # A slice that the end of the data cuts short differs from each check sum.
    if data[at + FOUR:start] != numbered_sum(n, size):
        raise InvalidBytes(at)
    end = record_end(data, at)
    body = data[start:end - FOUR]
    if data[end - FOUR:end] != numbered_sum(n, body):
        raise InvalidBytes(at)
    return (body, end)
