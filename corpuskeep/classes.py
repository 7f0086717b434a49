"""Finds the documents that are alike, their classes, and which document is kept of each class."""

from corpuskeep.shingles import share_is_met, shingles


def shingle_lists(documents, length):
    """Return a tuple (id, shingles) for each document."""
    return [(number, shingles(pieces, length)) for number, pieces in documents]


def common_counts(lists):
    """Return a dict from the ids (a, b) of documents that meet, a < b, to how many shingles both have."""
    counts = {}
    owners = {}
    for number, found in lists:
        for shingle in found:
            before = owners.setdefault(shingle, [])
            for other in before:
                counts[(other, number)] = counts.get((other, number), 0) + 1
            before.append(number)
    return counts


def meeting_pairs(documents, length):
    """Return all pairs (a, b) of ids, a < b, of documents that meet, in order."""
    return sorted(common_counts(shingle_lists(documents, length)))


def alike_pairs(documents, length, over, under):
    """Return all tuples (a, b, common, together) with a < b of documents that are alike, in order."""
    lists = shingle_lists(documents, length)
    many = {number: len(found) for number, found in lists}
    counts = common_counts(lists)
    pairs = []
    # Documents that do not meet are not alike, so no other pairs are compared.
    for a, b in sorted(counts):
        common = counts[(a, b)]
        together = many[a] + many[b] - common
        if share_is_met(common, together, over, under):
            pairs.append((a, b, common, together))
    return pairs


def kept_ids(documents, length, over, under):
    """Return a dict from each id to the id of the document that is kept of its class."""
    kept = {number: number for number, pieces in documents}
    for a, b, common, together in alike_pairs(documents, length, over, under):
        low = min(kept[a], kept[b])
        high = max(kept[a], kept[b])
        if low != high:
            kept = {number: low if least == high else least for number, least in kept.items()}
    return kept


def group(documents, length, over, under):
    """Return the classes, each a list of ids in ascending order, ordered by their first ids."""
    classes = {}
    # The ids ascend, so each class is first met at its least id.
    for number, least in kept_ids(documents, length, over, under).items():
        classes.setdefault(least, []).append(number)
    return list(classes.values())
