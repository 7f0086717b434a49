"""The definitions of the document, written down a second time and as plainly as possible, to compare with."""

import re
from fractions import Fraction


def plain_shape(word, shape):
    kinds = {"letter": "[A-Za-z]", "digit": "[0-9]", "any": "."}
    pattern = "".join("(?:%s){%d,%d}" % (kinds.get(kind, re.escape(kind)), least, most) for kind, least, most in shape)
    return re.fullmatch(pattern, word, re.DOTALL) is not None


def plain_lines(text, rules):
    """Return the lines of a text as lists of words, changed and hidden."""
    changes = dict(rules.changes)
    changed = "".join(changes.get(char, char) for char in text)
    return [
        [rules.mark if any(plain_shape(word, shape) for shape in rules.hidden) else word for word in line.split()]
        for line in changed.split("\n")
    ]


def plain_cleaned(contents):
    rules = contents.rules
    lines = {number: plain_lines(text, rules) for number, _, text in contents.documents}
    cleaned = []
    for number, _, _ in contents.documents:
        words = []
        for line in lines[number]:
            stands = sum(line in other for other in lines.values())
            common = rules.line_documents and stands >= rules.line_documents
            if len(line) >= rules.line_words and not set(line) & set(rules.banned) and not common:
                words += line
        reason = None
        for k, (shape, p, q) in reversed(list(enumerate(rules.shares))):
            if words and Fraction(sum(plain_shape(word, shape) for word in words), len(words)) > Fraction(p, q):
                reason = ("share", k)
        if len(words) < rules.document_words:
            reason = ("short",)
        cleaned.append((number, reason, words))
    return cleaned


def plain_exams(contents):
    return [[word for line in plain_lines(text, contents.rules) for word in line] for text in contents.exams]


def plain_phrases(contents):
    n = contents.rules.phrase_words
    return [exam[at:at + n] for exam in plain_exams(contents) for at in range(len(exam) - n + 1)]


def plain_covers(contents, words):
    """Return for each word the first standing that covers it as a tuple (place, text, phrase), or None."""
    n = contents.rules.phrase_words
    standings = [
        (place, number, start) for number, exam in enumerate(plain_exams(contents))
        for start in range(len(exam) - n + 1) for place in range(len(words) - n + 1)
        if words[place:place + n] == exam[start:start + n]
    ]
    return [
        min((one for one in standings if one[0] <= at < one[0] + n), default=None) for at in range(len(words))
    ]


def plain_pieces(words, covers):
    pieces = []
    for at, word in enumerate(words):
        if covers[at] is None:
            if at == 0 or covers[at - 1] is not None:
                pieces.append((at, []))
            pieces[-1][1].append(word)
    return pieces


def plain_shingles(pieces, k):
    return {
        tuple(piece[at:at + k]) for piece in pieces for at in range(max(1, len(piece) - k + 1))
    }


def plain_alike(first, second, rules):
    firsts = plain_shingles(first, rules.run_words)
    seconds = plain_shingles(second, rules.run_words)
    return rules.alike_least * len(firsts | seconds) <= rules.alike_of * len(firsts & seconds)


def plain_kept(left, rules):
    """Return the tuples (id, id of the kept document), by chains of any length."""
    kept = dict((number, number) for number, _ in left)
    for _ in left:
        for a, first in left:
            for b, second in left:
                if plain_alike(first, second, rules):
                    kept[a] = kept[b] = min(kept[a], kept[b])
    return [(number, kept[number]) for number, _ in left]


def plain_codes(joins, word):
    codes = [2 + ord(char) for char in word + " "]
    for index, join in enumerate(joins):
        at = 0
        while at < len(codes):
            if tuple(codes[at:at + 2]) == join:
                codes[at:at + 2] = [200 + index]
            at += 1
    return codes


def plain_gain(joins, words, pair):
    before = sum(len(plain_codes(joins, word)) for word in words)
    return before - sum(len(plain_codes(joins + [pair], word)) for word in words)


def plain_joins(limit, words):
    joins = []
    while len(joins) < limit:
        lists = [plain_codes(joins, word) for word in words]
        pairs = {pair for codes in lists for pair in zip(codes, codes[1:])}
        ranks = sorted((-plain_gain(joins, words, pair), pair) for pair in pairs)
        if not ranks or ranks[0][0] > -2:
            break
        joins.append(ranks[0][1])
    return joins


def plain_phases(weights, counts):
    left = list(counts)
    order = []
    while any(left):
        active = [source for source in range(len(left)) if left[source]]
        total = sum(weights[source] for source in active)
        phase = []
        while not phase or left[phase[-1]]:
            may = [
                source for source in active
                if phase.count(source) * total < weights[source] * (len(phase) + 1)
            ]
            dues = [(-(-(phase.count(source) + 1) * total // weights[source]), source) for source in may]
            phase.append(min(dues)[1])
            left[phase[-1]] -= 1
        order.append(phase)
    return order


def plain_streams(rules, published, joins):
    streams = [[] for _ in rules.sources]
    for _, source, _, words in published:
        for word in words:
            streams[source] += plain_codes(joins, word)
        streams[source].append(1)
    return streams


def plain_corpus(contents):
    """Return the fields of the corpus of the contents as a dict."""
    rules = contents.rules
    cleaned = plain_cleaned(contents)
    pieces = [
        (number, plain_pieces(words, plain_covers(contents, words)))
        for number, reason, words in cleaned if reason is None
    ]
    long = [(number, [piece for piece in own if len(piece[1]) >= rules.piece_words]) for number, own in pieces]
    left = [(number, [words for _, words in own]) for number, own in long if own]
    kept_for = plain_kept(left, rules)
    sources = {number: source for number, source, _ in contents.documents}
    published = [
        (number, sources[number], place, words)
        for number, own in long if (number, number) in kept_for for place, words in own
    ]
    joins = plain_joins(rules.join_limit, [word for _, _, _, words in published for word in words])
    size = rules.page_codes
    filled = []
    for codes in plain_streams(rules, published, joins):
        codes = codes + [0] * (-len(codes) % size)
        filled.append([codes[at:at + size] for at in range(0, len(codes), size)])
    phases = plain_phases([weight for _, weight in rules.sources], [len(own) for own in filled])
    pages = [(source, filled[source].pop(0)) for phase in phases for source in phase]
    return {
        "cleaned": cleaned, "phrases": plain_phrases(contents), "pieces": pieces, "left": left,
        "kept_for": kept_for, "published": published, "joins": joins, "phases": phases, "pages": pages,
    }


def plain_number(n):
    digits = []
    while n or not digits:
        digits.append(n % 128)
        n //= 128
    return [digit + 128 for digit in digits[:-1]] + digits[-1:]


def plain_sum(data):
    """Return the check sum as four bytes."""
    h = 5381
    for byte in data:
        h = (257 * h + byte + 1) % 2 ** 32
    return list(h.to_bytes(4, "little"))
