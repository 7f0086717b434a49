"""Books: documents, rules and exam texts that change by deeds, and what is published of them."""

from corpuskeep.corpora import Contents, copy_contents, copy_corpus, make_corpus, published_words
from corpuskeep.errors import (
    DuplicateDocument, NotPublished, OtherSources, TooLarge, TooManyDocuments, UnknownDocument, UnknownSource,
)
from corpuskeep.grammar import parse_rules
from corpuskeep.rules import within_limits

MOST_DOCUMENTS = 24


def limited_rules(text):
    """Return the Rules object of the text. Raises RulesFault, and TooLarge."""
    rules = parse_rules(text)
    if not within_limits(rules):
        raise TooLarge()
    return rules


def source_names(rules):
    return [name for name, weight in rules.sources]


def left_pairs(left):
    """Return the pairs of what is left of two documents, that of the lesser id first."""
    plain = [tuple([tuple(words) for words in pieces]) for number, pieces in left]
    return [(first, second) for at, first in enumerate(plain) for second in plain[at + 1:]]


def work_lists(contents, corpus):
    """Return for each kind of work a tuple (basis, things).

    As long as the basis is the same, a thing that was there before does not have to be done anew.
    """
    rules = contents.rules
    return [
        ((rules.changes, rules.hidden, rules.mark), [text for number, source, text in contents.documents]),
        (corpus.phrases, [tuple(words) for number, reason, words in corpus.cleaned if reason is None]),
        ((rules.run_words, rules.alike_least, rules.alike_of), left_pairs(corpus.left)),
        (corpus.joins, published_words(corpus.published)),
    ]


def count_new(things, before):
    """Return how many different things there are that were not there before."""
    known = {thing: True for thing in before}
    return len({thing: True for thing in things if thing not in known})


def first_work(contents, corpus):
    """Return the work of the first publication."""
    return tuple([count_new(things, []) for basis, things in work_lists(contents, corpus)])


def later_work(old_contents, old_corpus, contents, corpus):
    """Return the work of a publication, by the state that was published before."""
    work = []
    for (old_basis, old_things), (basis, things) in zip(
        work_lists(old_contents, old_corpus), work_lists(contents, corpus),
    ):
        work.append(count_new(things, old_things if basis == old_basis else []))
    return tuple(work)


class Book:
    """A book with its present contents and what was published last."""

    def __init__(self, rules_text):
        self.rules = limited_rules(rules_text)
        self.rules_text = rules_text
        self.documents = {}
        self.exams = []
        self.state = None

    def apply(self, deed):
        """Do the deed. If it is refused, an error is raised and nothing changes."""
        match deed:
            case ("add", number, name, text):
                self.add_document(number, name, text)
            case ("replace", number, text):
                self.replace_text(number, text)
            case ("remove", number):
                self.remove_document(number)
            case ("rules", text):
                self.change_rules(text)
            case ("exams", texts):
                self.exams = list(texts)
            case ("publish",):
                self.publish()

    def add_document(self, number, name, text):
        if len(self.documents) >= MOST_DOCUMENTS:
            raise TooManyDocuments()
        if number in self.documents:
            raise DuplicateDocument(number)
        names = source_names(self.rules)
        if name not in names:
            raise UnknownSource(name)
        self.documents[number] = (names.index(name), text)

    def require_document(self, number):
        if number not in self.documents:
            raise UnknownDocument(number)

    def replace_text(self, number, text):
        self.require_document(number)
        source, old = self.documents[number]
        self.documents[number] = (source, text)

    def remove_document(self, number):
        self.require_document(number)
        del self.documents[number]

    def change_rules(self, text):
        rules = limited_rules(text)
        present = source_names(self.rules)
        if source_names(rules)[:len(present)] != present:
            raise OtherSources()
        self.rules = rules
        self.rules_text = text

    def publish(self):
        contents = self.now()
        corpus = make_corpus(contents)
        if self.state is None:
            work = first_work(contents, corpus)
        else:
            old_contents, old_corpus, old_work = self.state
            work = later_work(old_contents, old_corpus, contents, corpus)
        self.state = (contents, corpus, work)

    def now(self):
        """Return the present contents."""
        documents = [(number, *self.documents[number]) for number in sorted(self.documents)]
        # The Rules object is made anew from the text, so that no caller gets hold of the book's own one.
        return Contents(self.rules_text, documents, self.exams)

    def last(self):
        """Return a tuple (contents, corpus, work) of the last publication. Raises NotPublished."""
        if self.state is None:
            raise NotPublished()
        contents, corpus, work = self.state
        return (copy_contents(contents), copy_corpus(corpus), work)
