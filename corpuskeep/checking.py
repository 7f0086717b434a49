"""Checks by a certificate whether a corpus is the corpus of contents.

The plain definitions are applied to what the corpus and the certificate say. Whatever they say, nothing is raised.
"""

from corpuskeep.chains import alike_ids
from corpuskeep.classes import alike_pairs
from corpuskeep.corpora import (
    clean_contents, exam_lists, filled_pages, left_pieces, phrase_lists, published_pieces, published_words,
)
from corpuskeep.filling import give_pages
from corpuskeep.joining import FIRST_JOIN
from corpuskeep.learning import LEAST_GAIN, counted_codes, counted_gains, make_in_counted
from corpuskeep.order import due
from corpuskeep.papers import drop_fate
from corpuskeep.pieces import covered_places, pieces_between


def is_chain(told):
    return len(told) == 2 and told[0] == "chain" and isinstance(told[1], list)


def is_fate_of(rules, told, reason, words):
    """Return True if the fate is of the right kind for a document, and tells the right reason if it is dropped."""
    if reason is None:
        return told == ("nothing",) or told == ("kept",) or is_chain(told)
    return told == drop_fate(rules, reason, words)


def cleaning_holds(contents, corpus, fates):
    """Condition 1: the cleaned documents, and the fates that tell reasons."""
    if corpus.cleaned != clean_contents(contents) or len(fates) != len(corpus.cleaned):
        return False
    for told, (number, reason, words) in zip(fates, corpus.cleaned):
        if not is_fate_of(contents.rules, told, reason, words):
            return False
    return True


def phrases_hold(contents, corpus):
    """Condition 2: the phrases of the exam texts in order."""
    return corpus.phrases == phrase_lists(contents.rules.phrase_words, exam_lists(contents))


def stands_and_covers(length, texts, words, told, at):
    """Return True if the phrase that is told stands where it says and covers the word at the place."""
    if len(told) != 3:
        return False
    exam, phrase, place = told
    # The numbers are any integers, and a negative index would count from the end.
    if not 0 <= exam < len(texts) or not 0 <= phrase <= len(texts[exam]) - length:
        return False
    if not 0 <= place <= at < place + length:
        return False
    return words[place:place + length] == texts[exam][phrase:phrase + length]


def cover_holds(length, texts, words, cover):
    """Return True if there is a right entry for each word of a document."""
    if len(cover) != len(words):
        return False
    covered = {place: True for place in covered_places(length, texts, words)}
    for at, told in enumerate(cover):
        if told is None:
            if at in covered:
                return False
        elif not stands_and_covers(length, texts, words, told, at):
            return False
    return True


def pieces_hold(contents, corpus, covers):
    """Condition 3: the covers, the pieces between them, and what is left."""
    rules = contents.rules
    texts = exam_lists(contents)
    open_words = [(number, words) for number, reason, words in corpus.cleaned if reason is None]
    if len(covers) != len(open_words):
        return False
    pieces = []
    for cover, (number, words) in zip(covers, open_words):
        if not cover_holds(rules.phrase_words, texts, words, cover):
            return False
        places = [at for at, told in enumerate(cover) if told is not None]
        pieces.append((number, pieces_between(places, words)))
    return corpus.pieces == pieces and corpus.left == left_pieces(pieces, rules)


def chain_holds(near, number, kept, ids):
    """Return True if the ids are a chain from the document to another one that is kept."""
    if not ids or ids[0] != number or ids[-1] != kept or kept == number:
        return False
    for a, b in zip(ids, ids[1:]):
        # Each document is alike to itself; `near` lists the other ones.
        if a != b and b not in near.get(a, []):
            return False
    return True


def kept_fate_holds(near, number, kept, told):
    """Return True if the fate of a document fits the kept one; `kept` is None if the document is not in `left`."""
    if told == ("nothing",):
        return kept is None
    if told == ("kept",):
        return kept == number
    return kept is not None and chain_holds(near, number, kept, told[1])


def rows_are_of(rows, numbers):
    """Return True if the rows are pairs, and begin with these numbers."""
    if [row[:1] for row in rows] != [(number,) for number in numbers]:
        return False
    return all([len(row) == 2 for row in rows])


def duplicates_hold(contents, corpus, fates):
    """Condition 4: which documents are kept, and the fates that tell it."""
    rules = contents.rules
    if not rows_are_of(corpus.kept_for, [number for number, pieces in corpus.left]):
        return False
    kept = dict(corpus.kept_for)
    if any([least > number for number, least in kept.items()]):
        return False
    pairs = alike_pairs(corpus.left, rules.run_words, rules.alike_least, rules.alike_of)
    if any([kept[a] != kept[b] for a, b, common, together in pairs]):
        return False
    near = alike_ids(pairs)
    for told, (number, reason, words) in zip(fates, corpus.cleaned):
        if reason is None and not kept_fate_holds(near, number, kept.get(number), told):
            return False
    return True


def published_holds(contents, corpus):
    """Condition 5: the long pieces of the documents that are kept for themselves."""
    return corpus.published == published_pieces(contents, corpus.pieces, corpus.kept_for)


def is_best(found, pair, gain):
    """Return True if the pair has this gain, at least 2, and no other pair is better, by the gains of all pairs."""
    if gain < LEAST_GAIN or found.get(pair, 0) != gain:
        return False
    return all([(-many, other) >= (-gain, pair) for other, many in found.items()])


def joins_hold(contents, corpus, gains):
    """Condition 6: each join is the best one at its time, and none is missing."""
    limit = contents.rules.join_limit
    if len(gains) != len(corpus.joins) or len(corpus.joins) > limit:
        return False
    counted = counted_codes([], published_words(corpus.published))
    for index, (pair, gain) in enumerate(zip(corpus.joins, gains)):
        if not is_best(counted_gains(counted), pair, gain):
            return False
        counted = make_in_counted(counted, pair, FIRST_JOIN + index)
    if len(corpus.joins) == limit:
        return True
    return all([many < LEAST_GAIN for many in list(counted_gains(counted).values())])


def may_have(weights, total, placed, source):
    """Return True if the source may have the next page of the phase."""
    turn = sum(list(placed.values())) + 1
    return placed[source] * total < weights[source] * turn


def has_turn(weights, total, placed, source):
    """Return True if the source has the next page of the phase: it may, and no other that may is due before it."""
    if source not in placed or not may_have(weights, total, placed, source):
        return False
    rank = (due(total, weights[source], placed[source]), source)
    for other, many in placed.items():
        if (due(total, weights[other], many), other) < rank and may_have(weights, total, placed, other):
            return False
    return True


def phase_holds(weights, left, phase):
    """Return True if the phase follows the rule turn by turn, and ends just when a source has no page left."""
    placed = {source: 0 for source, many in enumerate(left) if many > 0}
    total = sum([weights[source] for source in placed])
    ended = False
    for source in phase:
        if ended or not has_turn(weights, total, placed, source):
            return False
        placed[source] += 1
        ended = placed[source] == left[source]
    return ended


def pages_hold(contents, corpus):
    """Condition 7: the phases use up all pages by the rule, and the pages stand in this order."""
    weights = [weight for name, weight in contents.rules.sources]
    filled = filled_pages(contents.rules, corpus.published, corpus.joins)
    left = [len(own) for own in filled]
    for phase in corpus.phases:
        if not isinstance(phase, list) or not phase_holds(weights, left, phase):
            return False
        left = [many - phase.count(source) for source, many in enumerate(left)]
    return sum(left) == 0 and corpus.pages == give_pages(corpus.phases, filled)


def why_not(contents, corpus, paper):
    """Return None if all conditions hold, otherwise the name of the first one that does not."""
    fates, covers, gains = paper
    # Each condition relies on those before it, so they are asked in this order, and no further than the first no.
    if not cleaning_holds(contents, corpus, fates):
        return "cleaning"
    if not phrases_hold(contents, corpus):
        return "phrases"
    if not pieces_hold(contents, corpus, covers):
        return "pieces"
    if not duplicates_hold(contents, corpus, fates):
        return "duplicates"
    if not published_holds(contents, corpus):
        return "published"
    if not joins_hold(contents, corpus, gains):
        return "joins"
    if not pages_hold(contents, corpus):
        return "pages"
    return None


def accepts(contents, corpus, paper):
    """Return True if all conditions hold, otherwise False."""
    return why_not(contents, corpus, paper) is None
