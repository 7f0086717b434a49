"""Fills pages with the codes of streams, and deals them out in their order."""

from corpuskeep.joining import FILL
from corpuskeep.order import phases


def fill(stream, size):
    """Return the pages of a stream, each a list of `size` codes."""
    pages = [stream[start:start + size] for start in range(0, len(stream), size)]
    if pages:
        pages[-1] = pages[-1] + [FILL] * (size - len(pages[-1]))
    return pages


def give_pages(order, filled):
    """Return the pages (source, codes) in the order of these phases; `filled` has the pages of each source."""
    given = [0] * len(filled)
    pages = []
    for phase in order:
        for source in phase:
            pages.append((source, filled[source][given[source]]))
            given[source] += 1
    return pages


def deal(weights, streams, size):
    """Return all pages (source, codes) of the streams in their order."""
    filled = [fill(stream, size) for stream in streams]
    return give_pages(phases(weights, [len(own) for own in filled]), filled)
