"""Tells what stands at each place of the pages, and where each published word stands."""

from corpuskeep.errors import OutOfRange
from corpuskeep.joining import END, FILL, FIRST_JOIN, char_code


def source_pieces(corpus, source):
    """Return the published pieces of a source as tuples (id, place, words)."""
    return [(number, place, words) for number, own, place, words in corpus.published if own == source]


def word_enders(joins):
    """Return a dict of the codes that end a word."""
    # A word has its only space at its end, so a join ends a word if its second code does.
    enders = {char_code(" "): True}
    for index, (a, b) in enumerate(joins):
        if b in enders:
            enders[FIRST_JOIN + index] = True
    return enders


def codes_before(corpus, page, place):
    """Return the codes of the stream before this place of this page."""
    source, last = corpus.pages[page]
    before = []
    for own, codes in corpus.pages[:page]:
        if own == source:
            before.extend(codes)
    return before + last[:place]


def last_part(codes):
    """Return the codes behind the last END."""
    start = len(codes)
    while start > 0 and codes[start - 1] != END:
        start -= 1
    return codes[start:]


def position(corpus, page, place):
    """Return None at a filling code, otherwise a tuple (id, place, word). Raises OutOfRange."""
    if not 0 <= page < len(corpus.pages):
        raise OutOfRange()
    source, codes = corpus.pages[page]
    if not 0 <= place < len(codes):
        raise OutOfRange()
    if codes[place] == FILL:
        return None
    before = codes_before(corpus, page, place)
    number, first, words = source_pieces(corpus, source)[before.count(END)]
    enders = word_enders(corpus.joins)
    at = len([code for code in last_part(before) if code in enders])
    # At the end of the piece all its words stand before.
    return (number, first + at, words[at] if at < len(words) else None)


def code_spots(corpus, source):
    """Return a tuple (code, (page, place)) for each place of the pages of a source."""
    spots = []
    for page, (own, codes) in enumerate(corpus.pages):
        if own == source:
            spots.extend([(code, (page, place)) for place, code in enumerate(codes)])
    return spots


def places_in_source(corpus, source, number):
    """Return the tuples (place, word, codes) of a document of this source."""
    spots = code_spots(corpus, source)
    enders = word_enders(corpus.joins)
    found = []
    at = 0
    for own, first, words in source_pieces(corpus, source):
        for offset, word in enumerate(words):
            start = at
            while spots[at][0] not in enders:
                at += 1
            at += 1
            if own == number:
                found.append((first + offset, word, [spot for code, spot in spots[start:at]]))
        # The code that ends the piece belongs to no word.
        at += 1
    return found


def places_of(corpus, number):
    """Return a tuple (place, word, codes) for each published word of the document, in order."""
    for own, source, place, words in corpus.published:
        if own == number:
            return places_in_source(corpus, source, number)
    return []
