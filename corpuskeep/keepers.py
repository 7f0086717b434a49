"""Keepers: books with their journals, which may be taken up again."""

from corpuskeep.books import Book
from corpuskeep.compacting import compact
from corpuskeep.errors import CorpusError, InvalidBytes
from corpuskeep.journals import count_records, recover, write_journal
from corpuskeep.records import write_deed, write_record


class Keeper:
    """A book with the journal of its deeds, the first of which is rules."""

    def __init__(self, rules_text):
        self.book = Book(rules_text)
        self.written = write_journal([("rules", rules_text)])
        self.records = 1

    def do(self, deed):
        """Do the deed in the book, and write it down unless the book refuses it."""
        self.book.apply(deed)
        self.written.extend(write_record(self.records, write_deed(deed)))
        self.records += 1

    def journal(self):
        """Return a copy of the journal."""
        return list(self.written)

    def shorten(self):
        """Replace the journal with a short one that leads to the same state."""
        self.written = compact(self.book)
        self.records = count_records(self.written)


def begin_keeper(deeds):
    """Return a keeper that has done the first deed. Raises InvalidBytes(0) if it cannot be the first one."""
    if not deeds or deeds[0][0] != "rules":
        raise InvalidBytes(0)
    try:
        return Keeper(deeds[0][1])
    except CorpusError:
        raise InvalidBytes(0) from None


def take_up(data):
    """Return a keeper that has done the deeds of a journal, perhaps a cut one. Raises InvalidBytes(0)."""
    deeds, length = recover(data)
    keeper = begin_keeper(deeds)
    for deed in deeds[1:]:
        try:
            keeper.do(deed)
        except CorpusError:
            return keeper
    return keeper
