"""Finds the order in which the sources give their pages, so that each has its share at any time."""


def due(total, weight, placed):
    """Return the least integer T with (placed + 1) * total <= weight * T."""
    # The floor of the negative is the ceiling of the positive.
    return -(-(placed + 1) * total // weight)


def next_source(weights, total, placed):
    """Return the source of the next page; `placed` tells how many pages each active source has in the phase."""
    turn = sum(list(placed.values())) + 1
    ranks = [
        (due(total, weights[source], many), source)
        for source, many in placed.items() if many * total < weights[source] * turn
    ]
    return min(ranks)[1]


def next_phase(weights, left):
    """Return the next phase; `left` tells how many pages each source has left."""
    placed = {source: 0 for source, many in enumerate(left) if many > 0}
    total = sum([weights[source] for source in placed])
    phase = []
    ended = False
    while not ended:
        source = next_source(weights, total, placed)
        placed[source] += 1
        phase.append(source)
        ended = placed[source] == left[source]
    return phase


def phases(weights, counts):
    """Return the order of the pages, a list of phases, each a list of sources."""
    order = []
    left = list(counts)
    while sum(left) > 0:
        phase = next_phase(weights, left)
        left = [many - phase.count(source) for source, many in enumerate(left)]
        order.append(phase)
    return order


def is_near(total, weight, many, turn):
    """Return True if `many` of the first `turn` pages are the share of the weight within less than one page."""
    return many * total < weight * turn + total and weight * turn < many * total + total


def fair(weights, counts, phase):
    """Return True if in every beginning of the phase each active source has its share within less than one page."""
    placed = {source: 0 for source, many in enumerate(counts) if many > 0}
    total = sum([weights[source] for source in placed])
    for before, given in enumerate(phase):
        placed[given] += 1
        for source, many in placed.items():
            if not is_near(total, weights[source], many, before + 1):
                return False
    return True
