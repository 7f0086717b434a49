"""The rules of a book, and their limits."""

MOST_SOURCES = 4
MOST_CHANGES = 8
MOST_CHANGE_TEXT = 8
MOST_BANNED = 8
MOST_WORD = 20
MOST_SHAPES = 4
MOST_PARTS = 6
MOST_PART_NUMBER = 40
MOST_RUN = 20
MOST_JOINS = 30
MOST_PAGE_CODES = 64
MOST_VOLUME_PAGES = 16
MOST_NUMBER = 100


class Rules:
    """What a text of rules says. It is made by parse_rules only, and not changed afterwards."""

    def __init__(self, *, sources, changes, banned, line_words, line_documents, hidden, mark, document_words,
                 shares, alike_least, alike_of, run_words, phrase_words, piece_words, join_limit, page_codes,
                 volume_pages):
        self.sources = sources
        self.changes = changes
        self.banned = banned
        self.line_words = line_words
        self.line_documents = line_documents
        self.hidden = hidden
        self.mark = mark
        self.document_words = document_words
        self.shares = shares
        self.alike_least = alike_least
        self.alike_of = alike_of
        self.run_words = run_words
        self.phrase_words = phrase_words
        self.piece_words = piece_words
        self.join_limit = join_limit
        self.page_codes = page_codes
        self.volume_pages = volume_pages


def sources_within(sources):
    return len(sources) <= MOST_SOURCES and all([weight <= MOST_NUMBER for name, weight in sources])


def changes_within(changes):
    return len(changes) <= MOST_CHANGES and all([len(text) <= MOST_CHANGE_TEXT for char, text in changes])


def words_within(rules):
    if len(rules.banned) > MOST_BANNED or len(rules.mark) > MOST_WORD:
        return False
    return all([len(word) <= MOST_WORD for word in rules.banned])


def shape_within(shape):
    if len(shape) > MOST_PARTS:
        return False
    return all([least <= MOST_PART_NUMBER and most <= MOST_PART_NUMBER for kind, least, most in shape])


def hidden_within(hidden):
    return len(hidden) <= MOST_SHAPES and all([shape_within(shape) for shape in hidden])


def shares_within(shares):
    if len(shares) > MOST_SHAPES:
        return False
    return all([shape_within(shape) and p <= MOST_NUMBER and q <= MOST_NUMBER for shape, p, q in shares])


def numbers_within(rules):
    others = [
        rules.line_words, rules.line_documents, rules.document_words, rules.alike_least, rules.alike_of,
        rules.piece_words,
    ]
    return (
        rules.run_words <= MOST_RUN
        and rules.phrase_words <= MOST_RUN
        and rules.join_limit <= MOST_JOINS
        and rules.page_codes <= MOST_PAGE_CODES
        and rules.volume_pages <= MOST_VOLUME_PAGES
        and max(others) <= MOST_NUMBER
    )


def within_limits(rules):
    """Return True if the rules are within all limits, otherwise False."""
    return (
        sources_within(rules.sources)
        and changes_within(rules.changes)
        and words_within(rules)
        and hidden_within(rules.hidden)
        and shares_within(rules.shares)
        and numbers_within(rules)
    )
