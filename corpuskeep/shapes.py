"""Tells whether a word has a shape."""

from corpuskeep.signs import is_digit, is_letter

KINDS = ("letter", "digit", "any")


def is_of_kind(char, kind):
    if kind == "letter":
        return is_letter(char)
    if kind == "digit":
        return is_digit(char)
    return kind == "any" or char == kind


def counts_before(flags):
    """Return for each index from 0 to the length how many flags before it are True."""
    counts = [0]
    for flag in flags:
        counts.append(counts[-1] + (1 if flag else 0))
    return counts


def ends_behind(word, starts, part):
    """Return for each index of the word whether a part of this kind and these numbers can end before it.

    `starts` tells in the same way at which indexes the part may begin.
    """
    kind, least, most = part
    starts_before = counts_before(starts)
    ends = []
    run = 0
    for end in range(len(word) + 1):
        if end > 0 and not is_of_kind(word[end - 1], kind):
            run = end
        # The part begins from `low` to `high`: not before its run of characters, and neither too long nor too short.
        low = max(run, end - most)
        high = end - least
        ends.append(low <= high and starts_before[low] < starts_before[high + 1])
    return ends


def has_shape(word, shape):
    """Return True if the word can be divided into parts as the shape says, otherwise False."""
    # All ways to divide the word are followed at once, so the answer does not depend on how greedy the parts are.
    ends = [True] + [False] * len(word)
    for part in shape:
        ends = ends_behind(word, ends, part)
    return ends[len(word)]


def has_any_shape(word, shapes):
    """Return True if the word has at least one of the shapes, otherwise False."""
    for shape in shapes:
        if has_shape(word, shape):
            return True
    return False
