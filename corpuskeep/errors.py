"""The errors that the program raises."""


class CorpusError(ValueError):
    """The base class of all errors of the program."""


class RulesFault(CorpusError):
    """A text of rules has a fault."""

    def __init__(self, line, column, message):
        self.line = line
        self.column = column
        self.message = message


class TooLarge(CorpusError):
    """Rules are not within limits, or a text would be too long."""


class DuplicateDocument(CorpusError):
    """A document with this id is in the book already."""

    def __init__(self, number):
        self.id = number


class UnknownDocument(CorpusError):
    """No document has this id."""

    def __init__(self, number):
        self.id = number


class UnknownSource(CorpusError):
    """No source of the rules has this name."""

    def __init__(self, name):
        self.name = name


class OtherSources(CorpusError):
    """New rules do not begin with the present sources."""


class TooManyDocuments(CorpusError):
    """The book has as many documents as a book may have."""


class NotPublished(CorpusError):
    """The book was never published."""


class InvalidBytes(CorpusError):
    """Bytes are not what they should be, from this index on."""

    def __init__(self, at):
        self.at = at


class UnknownCode(CorpusError):
    """A code is neither that of a character nor that of a join."""

    def __init__(self, code):
        self.code = code


class OutOfRange(CorpusError):
    """There is no such page or no such place."""
