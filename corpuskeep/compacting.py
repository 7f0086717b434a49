"""Makes short journals that lead to the same state as long ones."""

from corpuskeep.errors import NotPublished
from corpuskeep.journals import write_journal


def adding(contents, document):
    """Return the deed that adds the document."""
    number, source, text = document
    name, weight = contents.rules.sources[source]
    return ("add", number, name, text)


def first_deeds(contents):
    """Return the deeds that lead from a new book to the contents."""
    deeds = [("rules", contents.rules_text), ("exams", contents.exams)]
    return deeds + [adding(contents, document) for document in contents.documents]


def later_deeds(before, contents):
    """Return the deeds that lead from contents to later ones."""
    deeds = []
    if contents.rules_text != before.rules_text:
        deeds.append(("rules", contents.rules_text))
    if contents.exams != before.exams:
        deeds.append(("exams", contents.exams))
    # A document with another source was taken down and added again: no deed changes a source.
    old = {(number, source): text for number, source, text in before.documents}
    new = {(number, source): text for number, source, text in contents.documents}
    for number, source in old:
        if (number, source) not in new:
            deeds.append(("remove", number))
    for (number, source), text in new.items():
        if (number, source) in old and old[(number, source)] != text:
            deeds.append(("replace", number, text))
    for document in contents.documents:
        if document[:2] not in old:
            deeds.append(adding(contents, document))
    return deeds


def compact(book):
    """Return a journal whose deeds lead a new book to the same contents and the same published corpus."""
    contents = book.now()
    try:
        before, corpus, work = book.last()
    except NotPublished:
        return write_journal(first_deeds(contents))
    return write_journal(first_deeds(before) + [("publish",)] + later_deeds(before, contents))
