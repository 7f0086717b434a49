"""Tells what became of each document, and counts."""

from corpuskeep.errors import UnknownDocument
from corpuskeep.joining import FILL


def fate(contents, corpus, number):
    """Return the fate of the document. Raises UnknownDocument."""
    if number not in [own for own, source, text in contents.documents]:
        raise UnknownDocument(number)
    for own, reason, words in corpus.cleaned:
        if own == number and reason is not None:
            return ("dropped", reason)
    kept = dict(corpus.kept_for)
    if number not in kept:
        return ("nothing",)
    if kept[number] != number:
        return ("duplicate", kept[number])
    return ("kept", [(place, list(words)) for own, source, place, words in corpus.published if own == number])


def counts(contents, corpus, source=None):
    """Return a dict of counts for one source, or for all of them."""
    numbers = [number for number, own, text in contents.documents if source is None or own == source]
    kinds = [fate(contents, corpus, number)[0] for number in numbers]
    pieces = [words for number, own, place, words in corpus.published if source is None or own == source]
    pages = [codes for own, codes in corpus.pages if source is None or own == source]
    return {
        "documents": len(numbers),
        "dropped": kinds.count("dropped"),
        "nothing": kinds.count("nothing"),
        "duplicates": kinds.count("duplicate"),
        "kept": kinds.count("kept"),
        "pieces": len(pieces),
        "words": sum([len(words) for words in pieces]),
        "codes": sum([len(codes) - codes.count(FILL) for codes in pages]),
        "pages": len(pages),
    }
