"""The definitions of the document, written down a second time and as plainly as possible, to compare with."""

import re
from fractions import Fraction

from corpuskeep.reading import read_stream
from tests.test_order import plain_fair, plain_phases


def plain_shape(word, shape):
    kinds = {"letter": "[A-Za-z]", "digit": "[0-9]", "any": "."}
    pattern = "".join("(?:%s){%d,%d}" % (kinds.get(kind, re.escape(kind)), least, most) for kind, least, most in shape)
    return re.fullmatch(pattern, word, re.DOTALL) is not None


def plain_lines(text, rules):
    """Return the lines of a text as lists of words, changed and hidden."""
    changes = dict(rules.changes)
    changed = "".join(changes.get(char, char) for char in text)
    return [
        [rules.mark if any(plain_shape(word, shape) for shape in rules.hidden) else word for word in line.split()]
        for line in changed.split("\n")
    ]


def plain_cleaned(contents):
    rules = contents.rules
    lines = {number: plain_lines(text, rules) for number, _, text in contents.documents}
    cleaned = []
    for number, _, _ in contents.documents:
        words = []
        for line in lines[number]:
            stands = sum(line in other for other in lines.values())
            common = rules.line_documents and stands >= rules.line_documents
            if len(line) >= rules.line_words and not set(line) & set(rules.banned) and not common:
                words += line
        reason = None
        for k, (shape, p, q) in reversed(list(enumerate(rules.shares))):
            if words and Fraction(sum(plain_shape(word, shape) for word in words), len(words)) > Fraction(p, q):
                reason = ("share", k)
        if len(words) < rules.document_words:
            reason = ("short",)
        cleaned.append((number, reason, words))
    return cleaned


def plain_exams(contents):
    return [[word for line in plain_lines(text, contents.rules) for word in line] for text in contents.exams]


def plain_phrases(contents):
    n = contents.rules.phrase_words
    return [exam[at:at + n] for exam in plain_exams(contents) for at in range(len(exam) - n + 1)]


def plain_covers(contents, words):
    """Return for each word the first standing that covers it as a tuple (place, text, phrase), or None."""
    n = contents.rules.phrase_words
    standings = [
        (place, number, start) for number, exam in enumerate(plain_exams(contents))
        for start in range(len(exam) - n + 1) for place in range(len(words) - n + 1)
        if words[place:place + n] == exam[start:start + n]
    ]
    return [
        min((one for one in standings if one[0] <= at < one[0] + n), default=None) for at in range(len(words))
    ]


def plain_pieces(words, covers):
    pieces = []
    for at, word in enumerate(words):
        if covers[at] is None:
            if at == 0 or covers[at - 1] is not None:
                pieces.append((at, []))
            pieces[-1][1].append(word)
    return pieces


def plain_shingles(pieces, k):
    return {
        tuple(piece[at:at + k]) for piece in pieces for at in range(max(1, len(piece) - k + 1))
    }


def plain_alike(first, second, rules):
    firsts = plain_shingles(first, rules.run_words)
    seconds = plain_shingles(second, rules.run_words)
    return rules.alike_least * len(firsts | seconds) <= rules.alike_of * len(firsts & seconds)


def plain_kept(left, rules):
    """Return the tuples (id, id of the kept document), by chains of any length."""
    kept = dict((number, number) for number, _ in left)
    for _ in left:
        for a, first in left:
            for b, second in left:
                if plain_alike(first, second, rules):
                    kept[a] = kept[b] = min(kept[a], kept[b])
    return [(number, kept[number]) for number, _ in left]


def plain_codes(joins, word):
    codes = [2 + ord(char) for char in word + " "]
    for index, join in enumerate(joins):
        at = 0
        while at < len(codes):
            if tuple(codes[at:at + 2]) == join:
                codes[at:at + 2] = [200 + index]
            at += 1
    return codes


def plain_gain(joins, words, pair):
    before = sum(len(plain_codes(joins, word)) for word in words)
    return before - sum(len(plain_codes(joins + [pair], word)) for word in words)


def plain_joins(limit, words):
    joins = []
    while len(joins) < limit:
        lists = [plain_codes(joins, word) for word in words]
        pairs = {pair for codes in lists for pair in zip(codes, codes[1:])}
        ranks = sorted((-plain_gain(joins, words, pair), pair) for pair in pairs)
        if not ranks or ranks[0][0] > -2:
            break
        joins.append(ranks[0][1])
    return joins


def plain_streams(rules, published, joins):
    streams = [[] for _ in rules.sources]
    for _, source, _, words in published:
        for word in words:
            streams[source] += plain_codes(joins, word)
        streams[source].append(1)
    return streams


def plain_corpus(contents):
    """Return the fields of the corpus of the contents as a dict."""
    rules = contents.rules
    cleaned = plain_cleaned(contents)
    pieces = [
        (number, plain_pieces(words, plain_covers(contents, words)))
        for number, reason, words in cleaned if reason is None
    ]
    long = [(number, [piece for piece in own if len(piece[1]) >= rules.piece_words]) for number, own in pieces]
    left = [(number, [words for _, words in own]) for number, own in long if own]
    kept_for = plain_kept(left, rules)
    sources = {number: source for number, source, _ in contents.documents}
    published = [
        (number, sources[number], place, words)
        for number, own in long if (number, number) in kept_for for place, words in own
    ]
    joins = plain_joins(rules.join_limit, [word for _, _, _, words in published for word in words])
    size = rules.page_codes
    filled = []
    for codes in plain_streams(rules, published, joins):
        codes = codes + [0] * (-len(codes) % size)
        filled.append([codes[at:at + size] for at in range(0, len(codes), size)])
    phases = plain_phases([weight for _, weight in rules.sources], [len(own) for own in filled])
    pages = [(source, filled[source].pop(0)) for phase in phases for source in phase]
    return {
        "cleaned": cleaned, "phrases": plain_phrases(contents), "pieces": pieces, "left": left,
        "kept_for": kept_for, "published": published, "joins": joins, "phases": phases, "pages": pages,
    }


def plain_number(n):
    digits = []
    while n or not digits:
        digits.append(n % 128)
        n //= 128
    return [digit + 128 for digit in digits[:-1]] + digits[-1:]


def plain_sum(data):
    """Return the check sum as four bytes."""
    h = 5381
    for byte in data:
        h = (257 * h + byte + 1) % 2 ** 32
    return list(h.to_bytes(4, "little"))


def plain_told(rules, reason, words):
    """Return the fate of a dropped document as a certificate tells it."""
    if reason == ("short",):
        return ("short", len(words))
    shape = rules.shares[reason[1]][0]
    return ("share", reason[1], sum(plain_shape(word, shape) for word in words))


def plain_cover_fits(contents, words, cover):
    n = contents.rules.phrase_words
    standings = {
        (number, start, place) for number, exam in enumerate(plain_exams(contents))
        for start in range(len(exam) - n + 1) for place in range(len(words) - n + 1)
        if words[place:place + n] == exam[start:start + n]
    }
    if len(cover) != len(words):
        return False
    for at, told in enumerate(cover):
        over = {standing for standing in standings if standing[2] <= at < standing[2] + n}
        if (told is None and over) or (told is not None and told not in over):
            return False
    return True


def plain_duplicates_fit(rules, corpus, fates):
    left = dict(corpus.left)
    kept = dict(corpus.kept_for)
    if [number for number, _ in corpus.kept_for] != list(left) or any(kept[number] > number for number in kept):
        return False
    alike = {
        (a, b) for a, first in left.items() for b, second in left.items() if plain_alike(first, second, rules)
    }
    if any(kept[a] != kept[b] for a, b in alike):
        return False
    for (number, reason, _), told in zip(corpus.cleaned, fates):
        if reason is None and told[0] == "nothing" and number in left:
            return False
        if reason is None and told[0] == "kept" and kept.get(number) != number:
            return False
        if reason is None and told[0] == "chain":
            ids = told[1]
            if not ids or not set(ids) <= set(left) or not set(zip(ids, ids[1:])) <= alike:
                return False
            if ids[0] != number or ids[-1] != kept[number] or ids[-1] == number:
                return False
    return True


def plain_joins_fit(limit, words, joins, gains):
    if len(joins) != len(gains) or len(joins) > limit:
        return False
    for at in range(len(joins) + 1):
        lists = [plain_codes(joins[:at], word) for word in words]
        pairs = {pair for codes in lists for pair in zip(codes, codes[1:])}
        all_gains = {pair: plain_gain(joins[:at], words, pair) for pair in pairs}
        if at == len(joins):
            return at == limit or all(gain < 2 for gain in all_gains.values())
        if gains[at] < 2 or all_gains.get(joins[at]) != gains[at]:
            return False
        if any(gain > gains[at] or gain == gains[at] and pair < joins[at] for pair, gain in all_gains.items()):
            return False


def plain_pages(rules, published, joins, phases):
    """Return the pages in the order of the phases, or None if there are not just so many."""
    size = rules.page_codes
    filled = []
    for codes in plain_streams(rules, published, joins):
        codes = codes + [0] * (-len(codes) % size)
        filled.append([codes[at:at + size] for at in range(0, len(codes), size)])
    if phases != plain_phases([weight for _, weight in rules.sources], [len(own) for own in filled]):
        return None
    return [(source, filled[source].pop(0)) for phase in phases for source in phase]


def plain_why_not(contents, corpus, paper):
    """The conditions of [p3] in their order."""
    fates, covers, gains = paper
    rules = contents.rules
    cleaned = plain_cleaned(contents)
    if corpus.cleaned != cleaned or len(fates) != len(cleaned):
        return "cleaning"
    for told, (_, reason, words) in zip(fates, cleaned):
        if reason and told != plain_told(rules, reason, words):
            return "cleaning"
        if not reason and (not told or len(told) != {"nothing": 1, "kept": 1, "chain": 2}.get(told[0])):
            return "cleaning"
    if corpus.phrases != plain_phrases(contents):
        return "phrases"
    open_words = [(number, words) for number, reason, words in cleaned if not reason]
    if len(covers) != len(open_words) or not all(
        plain_cover_fits(contents, words, cover) for (_, words), cover in zip(open_words, covers)
    ):
        return "pieces"
    pieces = [(number, plain_pieces(words, cover)) for (number, words), cover in zip(open_words, covers)]
    long = [(number, [piece for piece in own if len(piece[1]) >= rules.piece_words]) for number, own in pieces]
    if corpus.pieces != pieces or corpus.left != [(number, [words for _, words in own]) for number, own in long if own]:
        return "pieces"
    if not plain_duplicates_fit(rules, corpus, fates):
        return "duplicates"
    sources = {number: source for number, source, _ in contents.documents}
    if corpus.published != [
        (number, sources[number], place, words)
        for number, own in long if (number, number) in corpus.kept_for for place, words in own
    ]:
        return "published"
    if not plain_joins_fit(
        rules.join_limit, [word for _, _, _, words in corpus.published for word in words], corpus.joins, gains,
    ):
        return "joins"
    pages = plain_pages(rules, corpus.published, corpus.joins, corpus.phases)
    return "pages" if pages is None or pages != corpus.pages else None


def broken_promises(contents, corpus):
    """Return which of the promises at the head of the document a published state breaks."""
    rules = contents.rules
    broken = []
    by_document = {}
    for number, _, _, words in corpus.published:
        by_document.setdefault(number, []).append(words)
    if any(
        plain_alike(first, second, rules)
        for a, first in by_document.items() for b, second in by_document.items() if a != b
    ):
        broken.append("two documents are alike")
    n = rules.phrase_words
    phrases = plain_phrases(contents)
    for _, _, _, words in corpus.published:
        if any(words[at:at + n] in phrases for at in range(len(words) - n + 1)):
            broken.append("a phrase is published")
    cleaned = {number: words for number, _, words in plain_cleaned(contents)}
    for number, own in corpus.pieces:
        inside = {place + at for place, words in own for at in range(len(words))}
        covers = plain_covers(contents, cleaned[number])
        if inside != {at for at, cover in enumerate(covers) if cover is None}:
            broken.append("a text is cut where no phrase stands")
    weights = [weight for _, weight in rules.sources]
    left = [sum(own == source for own, _ in corpus.pages) for source in range(len(weights))]
    for phase in corpus.phases:
        if not plain_fair(weights, left, phase):
            broken.append("a phase is not fair")
        left = [many - phase.count(source) for source, many in enumerate(left)]
    if [source for phase in corpus.phases for source in phase] != [source for source, _ in corpus.pages]:
        broken.append("the pages are in another order")
    for source in range(len(weights)):
        codes = [code for own, page in corpus.pages for code in page if own == source]
        if read_stream(corpus.joins, codes) != [words for _, own, _, words in corpus.published if own == source]:
            broken.append("the pages do not read back")
    return broken
