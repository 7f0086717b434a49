"""The contents of a book, and the corpus that is made of them."""

from corpuskeep.classes import kept_ids
from corpuskeep.cleaning import clean_documents
from corpuskeep.filling import fill, give_pages
from corpuskeep.grammar import parse_rules
from corpuskeep.joining import END, word_codes
from corpuskeep.learning import learn_joins
from corpuskeep.lines import exam_words, plain_words
from corpuskeep.order import phases
from corpuskeep.pieces import uncovered_pieces
from corpuskeep.volumes import write_volume


class Contents:
    """The rules with their text, the documents with ascending ids, and the exam texts of a book."""

    def __init__(self, rules_text, documents, exams, rules=None):
        self.rules_text = rules_text
        self.documents = list(documents)
        self.exams = list(exams)
        self.rules = parse_rules(rules_text) if rules is None else rules


class Corpus:
    """What is made of contents. It is made by make_corpus only; no two of its fields share a list."""

    def __init__(self, *, cleaned, phrases, pieces, left, kept_for, published, joins, order, pages):
        self.cleaned = cleaned
        self.phrases = phrases
        self.pieces = pieces
        self.left = left
        self.kept_for = kept_for
        self.published = published
        self.joins = joins
        self.phases = order
        self.pages = pages


def copy_contents(contents):
    """Return contents that share nothing with these ones, not even the Rules object."""
    return Contents(contents.rules_text, contents.documents, contents.exams)


def copy_value(value):
    """Return a value in which each list, at any depth, is a new one."""
    if isinstance(value, list):
        return [copy_value(part) for part in value]
    if isinstance(value, tuple):
        return tuple([copy_value(part) for part in value])
    return value


def copy_corpus(corpus):
    """Return an equal corpus that shares no list with this one."""
    return Corpus(
        cleaned=copy_value(corpus.cleaned), phrases=copy_value(corpus.phrases), pieces=copy_value(corpus.pieces),
        left=copy_value(corpus.left), kept_for=copy_value(corpus.kept_for), published=copy_value(corpus.published),
        joins=copy_value(corpus.joins), order=copy_value(corpus.phases), pages=copy_value(corpus.pages),
    )


def exam_lists(contents):
    """Return the words of each exam text."""
    return [exam_words(text, contents.rules) for text in contents.exams]


def clean_contents(contents):
    """Return a tuple (id, reason, words) of what cleaning makes of each document."""
    texts = [text for number, source, text in contents.documents]
    cleaned = []
    for (number, source, text), (reason, fates, placed) in zip(
        contents.documents, clean_documents(texts, contents.rules),
    ):
        cleaned.append((number, reason, plain_words(placed)))
    return cleaned


def phrase_lists(length, texts):
    """Return the phrases of the exam texts in order, each a list of words."""
    return [exam[start:start + length] for exam in texts for start in range(len(exam) - length + 1)]


def cut_pieces(cleaned, rules, texts):
    """Return a tuple (id, pieces) for each document that is not dropped."""
    return [
        (number, uncovered_pieces(rules.phrase_words, texts, words))
        for number, reason, words in cleaned if reason is None
    ]


def left_pieces(pieces, rules):
    """Return a tuple (id, list of lists of words) for each document that has long pieces."""
    left = []
    for number, own in pieces:
        long = [list(words) for place, words in own if len(words) >= rules.piece_words]
        if long:
            left.append((number, long))
    return left


def published_pieces(contents, pieces, kept_for):
    """Return a tuple (id, source, place, words) for each long piece of the documents that are kept."""
    sources = {number: source for number, source, text in contents.documents}
    kept = dict(kept_for)
    published = []
    for number, own in pieces:
        if kept.get(number) == number:
            for place, words in own:
                if len(words) >= contents.rules.piece_words:
                    published.append((number, sources[number], place, list(words)))
    return published


def published_words(published):
    """Return all words of the published pieces in order."""
    listed = []
    for number, source, place, words in published:
        listed.extend(words)
    return listed


def published_stream(published, joins, source):
    """Return the stream of a source, by its published pieces and the joins."""
    # Texts repeat their words, so each different word is written in codes only once.
    written = {}
    codes = []
    for number, own, place, words in published:
        if own == source:
            for word in words:
                if word not in written:
                    written[word] = word_codes(joins, word)
                codes.extend(written[word])
            codes.append(END)
    return codes


def filled_pages(rules, published, joins):
    """Return the pages of each source, each a list of codes."""
    return [
        fill(published_stream(published, joins, source), rules.page_codes) for source in range(len(rules.sources))
    ]


def make_corpus(contents):
    """Return the corpus of the contents."""
    rules = contents.rules
    texts = exam_lists(contents)
    cleaned = clean_contents(contents)
    pieces = cut_pieces(cleaned, rules, texts)
    left = left_pieces(pieces, rules)
    kept = kept_ids(left, rules.run_words, rules.alike_least, rules.alike_of)
    kept_for = [(number, kept[number]) for number, words in left]
    published = published_pieces(contents, pieces, kept_for)
    joins = learn_joins(rules.join_limit, published_words(published))
    filled = filled_pages(rules, published, joins)
    order = phases([weight for name, weight in rules.sources], [len(own) for own in filled])
    return Corpus(
        cleaned=cleaned, phrases=phrase_lists(rules.phrase_words, texts), pieces=pieces, left=left,
        kept_for=kept_for, published=published, joins=joins, order=order, pages=give_pages(order, filled),
    )


def stream(corpus, source):
    """Return the stream of a source."""
    return published_stream(corpus.published, corpus.joins, source)


def volumes(contents, corpus):
    """Return the volumes of the pages, each a list of bytes."""
    size = contents.rules.volume_pages
    pages = corpus.pages
    return [write_volume(pages[start:start + size]) for start in range(0, len(pages), size)]
