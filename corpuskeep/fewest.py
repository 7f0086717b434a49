"""Finds the fewest places that meet every standing."""

from corpuskeep.standing import standing_places


def fewest_places(length, texts, words):
    """Return the fewest places, so that each standing has a word at one of them, in ascending order."""
    taken = []
    behind = 0
    for place in standing_places(length, texts, words):
        # A standing that begins behind the last place taken has no word at any of them.
        if place >= behind:
            behind = place + length
            taken.append(behind - 1)
    return taken
