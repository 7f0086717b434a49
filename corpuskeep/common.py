"""Finds the longest run of words that a text and an exam text have in common."""

from corpuskeep.standing import phrase_cover, standing_places


def longest_length(texts, words):
    """Return how many words a longest common run has, 0 if there is none."""
    # A run of some length holds runs of all lesser lengths, so the length can be searched for by halves.
    low = 0
    high = min(len(words), max([len(exam) for exam in texts], default=0))
    while low < high:
        middle = (low + high + 1) // 2
        if standing_places(middle, texts, words):
            low = middle
        else:
            high = middle - 1
    return low


def longest_common_run(texts, words):
    """Return the longest common run (length, place, text, start), or None."""
    length = longest_length(texts, words)
    if length == 0:
        return None
    first = standing_places(length, texts, words)[0]
    place, text, start = phrase_cover(length, texts, words, first)
    return (length, place, text, start)
