"""Compares what is left of two documents by runs of words."""


def shingles(pieces, length):
    """Return the shingles of the pieces, each once, in the order in which they first occur."""
    found = {}
    for piece in pieces:
        # A piece that is too short for the length is a shingle itself.
        for start in range(max(1, len(piece) - length + 1)):
            found[tuple(piece[start:start + length])] = True
    return list(found)


def share_is_met(common, together, over, under):
    """Return True if `common` of `together` shingles make documents alike for the share `over` of `under`."""
    return over * together <= under * common


def compare(first, second, length, over, under):
    """Return a tuple (alike, common, together) for two lists of pieces."""
    firsts = shingles(first, length)
    seconds = {shingle: True for shingle in shingles(second, length)}
    common = len([shingle for shingle in firsts if shingle in seconds])
    together = len(firsts) + len(seconds) - common
    return (share_is_met(common, together, over, under), common, together)
