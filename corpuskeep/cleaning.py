"""Cleans documents: tells what becomes of their lines, what is left, and why a document is dropped."""

from corpuskeep.lines import plain_words, text_lines
from corpuskeep.shapes import has_shape


def count_lines(documents):
    """Return a dict from each line, as a tuple of words, to the number of documents in which it stands."""
    counts = {}
    for lines in documents:
        # A line counts once for a document, however often it stands there.
        different = {tuple(line): True for line in lines}
        for words in different:
            counts[words] = counts.get(words, 0) + 1
    return counts


def line_fate(line, rules, counts):
    if len(line) < rules.line_words:
        return ("short",)
    for word in line:
        if word in rules.banned:
            return ("banned", word)
    if rules.line_documents != 0 and counts[tuple(line)] >= rules.line_documents:
        return ("common", counts[tuple(line)])
    return ("kept",)


def line_fates(lines, rules, counts):
    """Return for each line, a list of words, what becomes of it."""
    return [line_fate(line, rules, counts) for line in lines]


def left_words(lines, fates):
    """Return the placed words of the kept lines, in order."""
    words = []
    for line, fate in zip(lines, fates):
        if fate == ("kept",):
            words.extend(line)
    return words


def count_with_shape(words, shape):
    """Return how many of the words have the shape."""
    counts = {}
    for word in words:
        counts[word] = counts.get(word, 0) + 1
    return sum([many for word, many in counts.items() if has_shape(word, shape)])


def drop_reason(words, rules):
    """Return None, or the reason for which a document with these words left is dropped."""
    if len(words) < rules.document_words:
        return ("short",)
    for index, (shape, p, q) in enumerate(rules.shares):
        if count_with_shape(words, shape) * q > p * len(words):
            return ("share", index)
    return None


def clean_documents(texts, rules):
    """Return for each text a tuple (reason, fates, words) of what cleaning makes of it."""
    documents = [text_lines(text, rules) for text in texts]
    plain = [[plain_words(line) for line in lines] for lines in documents]
    counts = count_lines(plain)
    cleaned = []
    for placed_lines, word_lines in zip(documents, plain):
        fates = line_fates(word_lines, rules, counts)
        words = left_words(placed_lines, fates)
        cleaned.append((drop_reason(plain_words(words), rules), fates, words))
    return cleaned
