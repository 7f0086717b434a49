"""Journals of deeds that may be cut anywhere, and journals that replace others."""

from corpuskeep.errors import InvalidBytes
from corpuskeep.records import read_deed, read_record, record_end, write_deed, write_record

HEADER = (67, 75, 1)
SEAL = (7,)


def empty_journal():
    """Return the header."""
    return list(HEADER)


def write_journal(deeds):
    """Return the journal of these deeds."""
    journal = empty_journal()
    for n, deed in enumerate(deeds):
        journal.extend(write_record(n, write_deed(deed)))
    return journal


def count_records(journal):
    """Return how many records a whole journal has."""
    many = 0
    at = len(HEADER)
    while at < len(journal):
        at = record_end(journal, at)
        many += 1
    return many


def extend(journal, deed):
    """Return the journal with one more record, that of the deed."""
    return journal + write_record(count_records(journal), write_deed(deed))


def recover(data):
    """Return a tuple (deeds, length) of the longest row of whole valid records with valid deeds."""
    deeds = []
    if data[:len(HEADER)] != list(HEADER):
        return (deeds, 0)
    at = len(HEADER)
    while at < len(data):
        try:
            body, behind = read_record(data, at, len(deeds))
            deed = read_deed(body)
        except InvalidBytes:
            return (deeds, at)
        deeds.append(deed)
        at = behind
    return (deeds, at)


def seal(journal):
    """Return the journal with a seal, a last record that is no deed."""
    return journal + write_record(count_records(journal), list(SEAL))


def is_sealed(data):
    """Return True if the data is a journal that ends with a seal, and has none before."""
    deeds, length = recover(data)
    # Recovering stops at the first seal, as a seal is no deed.
    return length > 0 and data[length:] == write_record(len(deeds), list(SEAL))


def choose(old, new):
    """Return the new journal without its seal if it is sealed, otherwise what is valid of the old one."""
    data = new if is_sealed(new) else old
    deeds, length = recover(data)
    return data[:length]
