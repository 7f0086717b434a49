"""Reads codes back to texts and words."""

from corpuskeep.errors import TooLarge, UnknownCode
from corpuskeep.joining import END, FILL, FIRST_JOIN, char_code

# All characters that a text may have.
CHARS = "\n !\"#$&'()*+,-./0123456789:;<=>?@ABCDEFGHIJKLMNOPQRSTUVWXYZ[\\]^_`abcdefghijklmnopqrstuvwxyz{|}~"
MOST_CHARS = 100000


def code_lengths(joins):
    """Return a dict from each code of a character or of a join to how many characters it stands for."""
    lengths = {char_code(char): 1 for char in CHARS}
    for index, (a, b) in enumerate(joins):
        lengths[FIRST_JOIN + index] = lengths[a] + lengths[b]
    return lengths


def code_texts(joins, most):
    """Return a dict from each code that stands for at most `most` characters to its text."""
    # Joins of joins may stand for very long texts, so only those that are asked for are made.
    lengths = code_lengths(joins)
    texts = {char_code(char): char for char in CHARS}
    for index, (a, b) in enumerate(joins):
        if lengths[FIRST_JOIN + index] <= most:
            texts[FIRST_JOIN + index] = texts[a] + texts[b]
    return texts


def known_lengths(joins, codes):
    """Return how many characters each of the codes stands for. Raises UnknownCode for the first unknown one."""
    lengths = code_lengths(joins)
    for code in codes:
        if code not in lengths:
            raise UnknownCode(code)
    return [lengths[code] for code in codes]


def text_length(joins, codes):
    """Return how many characters the codes stand for together. Raises UnknownCode."""
    return sum(known_lengths(joins, codes))


def code_text(joins, code):
    """Return the text of the code. Raises UnknownCode, and TooLarge."""
    if text_length(joins, [code]) > MOST_CHARS:
        raise TooLarge()
    return code_texts(joins, MOST_CHARS)[code]


def words_and_rest(texts, codes):
    """Return the words of the codes and the characters behind the last space, by the texts of the codes."""
    # Only the space ends words here, so the text is not split at newlines.
    parts = "".join([texts[code] for code in codes]).split(" ")
    return (parts[:-1], parts[-1])


def read_codes(joins, codes):
    """Return a tuple (words, rest) of what the codes say. Raises UnknownCode, and TooLarge."""
    if text_length(joins, codes) > MOST_CHARS:
        raise TooLarge()
    return words_and_rest(code_texts(joins, MOST_CHARS), codes)


def stream_parts(codes):
    """Return for each END in a stream the list of the codes before it, without filling codes."""
    parts = []
    part = []
    for code in codes:
        if code == END:
            parts.append(part)
            part = []
        elif code != FILL:
            part.append(code)
    return parts


def read_stream(joins, codes):
    """Return the pieces of a stream, each a list of words."""
    parts = stream_parts(codes)
    most = max([max(known_lengths(joins, part), default=0) for part in parts], default=0)
    texts = code_texts(joins, most)
    pieces = []
    for part in parts:
        words, rest = words_and_rest(texts, part)
        pieces.append(words)
    return pieces
