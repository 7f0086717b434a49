"""Learns from words which joins shorten their codes best."""

from corpuskeep.joining import FIRST_JOIN, make_join, word_codes

LEAST_GAIN = 2


def pair_gain(lists, pair):
    """Return how often the join of the pair would be made in the code lists."""
    # Making a join once shortens a list by one code; which code it gets plays no part.
    return sum([len(codes) - len(make_join(codes, pair, FIRST_JOIN)) for codes in lists])


def counted_codes(joins, words):
    """Return a tuple (codes, times) for each different word: its codes, and how often it occurs."""
    times = {}
    for word in words:
        times[word] = times.get(word, 0) + 1
    return [(word_codes(joins, word), many) for word, many in times.items()]


def counted_gains(counted):
    """Return a dict from each pair of adjacent codes to its gain."""
    gains = {}
    for codes, times in counted:
        taken = 0
        for at, pair in enumerate(zip(codes, codes[1:])):
            # In a row of equal codes the pairs overlap, and a code is taken once; other pairs never overlap.
            if pair[0] == pair[1]:
                if at < taken:
                    continue
                taken = at + 2
            gains[pair] = gains.get(pair, 0) + times
    return gains


def best_of_counted(counted):
    """Return a tuple (pair, gain) for the best pair of the code lists, or None."""
    ranks = [(-gain, pair) for pair, gain in counted_gains(counted).items()]
    if not ranks:
        return None
    rank, pair = min(ranks)
    return (pair, -rank)


def best_pair(joins, words):
    """Return a tuple (pair, gain) for the best pair of the words by these joins, or None."""
    return best_of_counted(counted_codes(joins, words))


def make_in_counted(counted, pair, code):
    return [(make_join(codes, pair, code), times) for codes, times in counted]


def counted_length(counted):
    return sum([len(codes) * times for codes, times in counted])


def learn_joins(count, words):
    """Return the joins that are learned from the words, at most `count`."""
    counted = counted_codes([], words)
    joins = []
    while len(joins) < count:
        best = best_of_counted(counted)
        if best is None or best[1] < LEAST_GAIN:
            return joins
        counted = make_in_counted(counted, best[0], FIRST_JOIN + len(joins))
        joins.append(best[0])
    return joins


def join_gains(joins, words):
    """Return the gain of each join by the joins before it."""
    counted = counted_codes([], words)
    gains = []
    for index, pair in enumerate(joins):
        joined = make_in_counted(counted, pair, FIRST_JOIN + index)
        gains.append(counted_length(counted) - counted_length(joined))
        counted = joined
    return gains
