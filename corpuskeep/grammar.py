"""Reads the rules from a text, or finds its fault."""

from corpuskeep.errors import RulesFault
from corpuskeep.rules import Rules
from corpuskeep.shapes import KINDS, has_any_shape
from corpuskeep.signs import read_signs

RESERVED = (
    "sources", "change", "to", "ban", "lines", "least", "common", "hide", "letter", "digit", "any", "mark",
    "documents", "share", "of", "alike", "runs", "phrases", "pieces", "joins", "pages", "volumes",
)


def is_word(text):
    return text != "" and " " not in text and "\n" not in text


class SignReader:
    """Goes through the signs of a text of rules; what it takes is checked at the sign that it takes."""

    def __init__(self, signs):
        self.signs = signs
        self.at = 0

    def sign_kind(self):
        return self.signs[self.at][0]

    def sign_value(self):
        return self.signs[self.at][1]

    def stands(self, kind, value):
        return self.sign_kind() == kind and self.sign_value() == value

    def refuse(self, message):
        """Raise the fault at the present sign; a sign fault comes before any other message."""
        kind, value, line, column = self.signs[self.at]
        if kind == "fault":
            raise RulesFault(line, column, value)
        raise RulesFault(line, column, message)

    def require(self, allowed, message):
        if not allowed:
            self.refuse(message)

    def take(self):
        """Return the value of the present sign, and go on to the next sign."""
        value = self.sign_value()
        self.at += 1
        return value

    def take_sign(self, kind):
        self.require(self.sign_kind() == kind, "unexpected sign")
        return self.take()

    def take_exactly(self, kind, value):
        self.require(self.stands(kind, value), "unexpected sign")
        return self.take()

    def take_reserved(self, name):
        return self.take_exactly("name", name)

    def take_symbol(self, symbol):
        return self.take_exactly("symbol", symbol)

    def take_if_reserved(self, name):
        """Return True and take the sign if it is this reserved name, otherwise False."""
        found = self.stands("name", name)
        if found:
            self.take()
        return found

    def take_if_symbol(self, symbol):
        found = self.stands("symbol", symbol)
        if found:
            self.take()
        return found

    def take_new_name(self, used):
        self.require(self.sign_kind() == "name" and self.sign_value() not in RESERVED, "unexpected sign")
        self.require(self.sign_value() not in used, "already used")
        return self.take()

    def take_number(self):
        return self.take_sign("number")

    def take_positive(self):
        self.require(self.sign_kind() == "number", "unexpected sign")
        self.require(self.sign_value() >= 1, "number must be at least 1")
        return self.take()

    def take_number_from(self, least):
        self.require(self.sign_kind() == "number", "unexpected sign")
        self.require(self.sign_value() >= least, "number too small")
        return self.take()

    def take_char(self, used):
        """Take a quoted text of a single character that is not one of those used before."""
        self.require(self.sign_kind() == "quoted", "unexpected sign")
        self.require(len(self.sign_value()) == 1, "not a single character")
        self.require(self.sign_value() not in used, "already used")
        return self.take()

    def take_word(self, hidden):
        """Take a quoted word that has none of the hidden shapes."""
        self.require(self.sign_kind() == "quoted", "unexpected sign")
        self.require(is_word(self.sign_value()), "not a word")
        self.require(not has_any_shape(self.sign_value(), hidden), "mark would be hidden")
        return self.take()

    def take_part(self):
        """Take one element of a shape."""
        if self.sign_kind() == "name" and self.sign_value() in KINDS:
            kind = self.take()
        else:
            kind = self.take_char([])
        if self.sign_kind() != "number":
            return (kind, 1, 1)
        least = self.take()
        if not self.take_if_reserved("to"):
            return (kind, least, least)
        return (kind, least, self.take_number_from(least))

    def take_shape(self):
        shape = [self.take_part()]
        while self.take_if_symbol(","):
            shape.append(self.take_part())
        # The sign behind the shape is refused here, before it is asked whether the grammar allows it.
        self.require(max([least for kind, least, most in shape]) > 0, "shape of nothing")
        return shape

    def take_sources(self):
        sources = []
        self.take_reserved("sources")
        more = True
        while more:
            name = self.take_new_name([used for used, weight in sources])
            sources.append((name, self.take_positive()))
            more = self.take_if_symbol(",")
        self.take_symbol(";")
        return sources

    def take_changes(self):
        changes = []
        while self.take_if_reserved("change"):
            char = self.take_char([used for used, text in changes])
            self.take_reserved("to")
            changes.append((char, self.take_sign("quoted")))
            self.take_symbol(";")
        return changes

    def take_banned(self):
        banned = []
        more = self.take_if_reserved("ban")
        while more:
            banned.append(self.take_word([]))
            more = self.take_if_symbol(",")
        if banned:
            self.take_symbol(";")
        return banned

    def take_lines(self):
        """Return the least number of words of a line and the number of documents of a common one."""
        if not self.take_if_reserved("lines"):
            return (0, 0)
        words = 0
        documents = 0
        common = True
        if self.take_if_reserved("least"):
            words = self.take_number()
            common = self.take_if_symbol(",")
        if common:
            self.take_reserved("common")
            documents = self.take_number()
        self.take_symbol(";")
        return (words, documents)

    def take_hidden(self):
        hidden = []
        while self.take_if_reserved("hide"):
            hidden.append(self.take_shape())
            self.take_symbol(";")
        return hidden

    def take_mark(self, hidden):
        self.take_reserved("mark")
        mark = self.take_word(hidden)
        self.take_symbol(";")
        return mark

    def take_shares(self):
        shares = []
        while self.take_if_reserved("share"):
            shape = self.take_shape()
            self.take_symbol(":")
            p = self.take_number()
            self.take_reserved("of")
            shares.append((shape, p, self.take_positive()))
            self.take_symbol(";")
        return shares

    def take_alike(self):
        """Return the two numbers of the share and the number of words of a run."""
        self.take_reserved("alike")
        least = self.take_positive()
        self.take_reserved("of")
        of = self.take_number_from(least)
        self.take_symbol(",")
        self.take_reserved("runs")
        self.take_reserved("of")
        run = self.take_positive()
        self.take_symbol(";")
        return (least, of, run)

    def take_positive_row(self, names):
        """Take these reserved names, a number of at least 1 and a semicolon."""
        for name in names:
            self.take_reserved(name)
        number = self.take_positive()
        self.take_symbol(";")
        return number

    def take_joins(self):
        self.take_reserved("joins")
        number = self.take_number()
        self.take_symbol(";")
        return number


def parse_rules(text):
    """Return the Rules object of the text. Raises RulesFault if the text has a fault."""
    reader = SignReader(read_signs(text))
    sources = reader.take_sources()
    changes = reader.take_changes()
    banned = reader.take_banned()
    line_words, line_documents = reader.take_lines()
    hidden = reader.take_hidden()
    mark = reader.take_mark(hidden)
    document_words = reader.take_positive_row(["documents", "least"])
    shares = reader.take_shares()
    alike_least, alike_of, run_words = reader.take_alike()
    phrase_words = reader.take_positive_row(["phrases"])
    piece_words = reader.take_positive_row(["pieces", "least"])
    join_limit = reader.take_joins()
    page_codes = reader.take_positive_row(["pages"])
    volume_pages = reader.take_positive_row(["volumes"])
    reader.require(reader.sign_kind() == "end", "unexpected sign")
    return Rules(
        sources=sources, changes=changes, banned=banned, line_words=line_words, line_documents=line_documents,
        hidden=hidden, mark=mark, document_words=document_words, shares=shares, alike_least=alike_least,
        alike_of=alike_of, run_words=run_words, phrase_words=phrase_words, piece_words=piece_words,
        join_limit=join_limit, page_codes=page_codes, volume_pages=volume_pages,
    )


def find_fault(text):
    """Return None, or the fault of the text as a tuple (line, column, message)."""
    try:
        parse_rules(text)
    except RulesFault as fault:
        return (fault.line, fault.column, fault.message)
    return None
