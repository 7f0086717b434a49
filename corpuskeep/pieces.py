"""Cuts the phrases of exam texts out of a text."""

from corpuskeep.standing import standing_places


def covered_places(length, texts, words):
    """Return the places that some standing covers, in ascending order."""
    covered = []
    behind = 0
    for place in standing_places(length, texts, words):
        # Standings may overlap; each place is listed once.
        for at in range(max(place, behind), place + length):
            covered.append(at)
        behind = place + length
    return covered


def pieces_between(places, words):
    """Return the runs of words at all other places than these ascending ones, each as a tuple (place, words)."""
    pieces = []
    start = 0
    # The place behind the last word ends the last piece as a covered place would.
    for place in places + [len(words)]:
        if start < place:
            pieces.append((start, words[start:place]))
        start = place + 1
    return pieces


def uncovered_pieces(length, texts, words):
    """Return the pieces of the text, each as a tuple (place, words)."""
    return pieces_between(covered_places(length, texts, words), words)
