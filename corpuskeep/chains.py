"""Tells by which chain a document belongs to the document that is kept for it."""

from corpuskeep.classes import alike_pairs


def alike_ids(pairs):
    """Return a dict from each id in the pairs of alike documents to the list of the ids that it is paired with."""
    near = {}
    for a, b, common, together in pairs:
        near.setdefault(a, []).append(b)
        near.setdefault(b, []).append(a)
    return near


def steps_from(near, start):
    """Return a dict from each id of the class of `start` to how many steps a shortest chain takes from there."""
    steps = {start: 0}
    latest = [start]
    while latest:
        reached = []
        for here in latest:
            for other in near.get(here, []):
                if other not in steps:
                    steps[other] = steps[here] + 1
                    reached.append(other)
        latest = reached
    return steps


def chain_to_kept(near, number):
    """Return the told chain of the document, by the ids that are alike."""
    kept = min(steps_from(near, number))
    steps = steps_from(near, kept)
    chain = [number]
    while chain[-1] != kept:
        here = chain[-1]
        # Of the next documents on shortest chains the least id makes the chain the first one in order.
        chain.append(min([other for other in near[here] if steps[other] < steps[here]]))
    return chain


def told_chain(documents, length, over, under, number):
    """Return the told chain of the document with the id `number`."""
    return chain_to_kept(alike_ids(alike_pairs(documents, length, over, under)), number)
