"""Texts of rules, Rules objects, contents, corpora and histories of books for the tests."""

import copy

from corpuskeep.corpora import Contents, Corpus
from corpuskeep.grammar import parse_rules
from corpuskeep.rules import Rules

# The parts of a text of rules in their order; those that may be missing are empty.
PARTS = {
    "sources": "sources a 1;",
    "changes": "",
    "banned": "",
    "lines": "",
    "hidden": "",
    "mark": 'mark "#";',
    "documents": "documents least 1;",
    "shares": "",
    "alike": "alike 1 of 2, runs of 3;",
    "phrases": "phrases 2;",
    "pieces": "pieces least 1;",
    "joins": "joins 5;",
    "pages": "pages 8;",
    "volumes": "volumes 4;",
}

FIELDS = [
    "sources", "changes", "banned", "line_words", "line_documents", "hidden", "mark", "document_words", "shares",
    "alike_least", "alike_of", "run_words", "phrase_words", "piece_words", "join_limit", "page_codes",
    "volume_pages",
]

CORPUS_FIELDS = [
    "cleaned", "phrases", "pieces", "left", "kept_for", "published", "joins", "phases", "pages",
]

FULL_TEXT = """sources news 3, school_2 14;
change "A" to "a"; change "-" to ""; change "&" to " and "; change \"\"\"\" to "''";
ban "foo", "b""ar";
lines least 2, common 3;
hide digit 1 to 9, letter; hide "x", any 0 to 2;
mark "<#>";
documents least 5;
share letter 0 to 3, digit 2: 1 of 4; share any: 0 of 7;
alike 2 of 3, runs of 4;
phrases 6; pieces least 7; joins 8; pages 9; volumes 10;
"""


def rules_text(**changed):
    """Return a text of rules, one line for each part, with these parts instead of the plain ones."""
    return "".join(part + "\n" for part in {**PARTS, **changed}.values())


def make_rules(**changed):
    return parse_rules(rules_text(**changed))


def fields(rules):
    """Return the fields of a Rules object as a dict."""
    return {name: getattr(rules, name) for name in FIELDS}


def make_contents(documents, exams=(), /, **changed):
    return Contents(rules_text(**changed), list(documents), list(exams))


def corpus_fields(corpus):
    """Return the fields of a Corpus as a dict."""
    return {name: getattr(corpus, name) for name in CORPUS_FIELDS}


def contents_fields(contents):
    """Return the fields of a Contents object as a dict, those of its rules too."""
    return {
        "rules_text": contents.rules_text, "documents": contents.documents, "exams": contents.exams,
        "rules": fields(contents.rules),
    }


def frozen(value):
    """Return a copy that compares by what it holds."""
    if isinstance(value, Rules):
        return copy.deepcopy(fields(value))
    if isinstance(value, Corpus):
        return copy.deepcopy(corpus_fields(value))
    if isinstance(value, Contents):
        return copy.deepcopy(contents_fields(value))
    if isinstance(value, (list, tuple)):
        return type(value)(frozen(part) for part in value)
    return copy.deepcopy(value)


def spoil(value):
    """Change all lists, dicts and fields of a value."""
    if isinstance(value, (Rules, Corpus, Contents)):
        for name, part in vars(value).items():
            spoil(part)
        for name in list(vars(value)):
            setattr(value, name, None)
    elif isinstance(value, (list, tuple)):
        for part in value:
            spoil(part)
    if isinstance(value, list):
        value.append("spoiled")
        value.reverse()
    elif isinstance(value, dict):
        value["spoiled"] = 1


SOURCES = ["a", "b", "c"]


def random_rules(source, many=None):
    """Return a text of rules with the first `many` of the sources."""
    many = many or source.randrange(1, 4)
    weighted = ", ".join(f"{name} {source.randrange(1, 6)}" for name in SOURCES[:many])
    alike_of = source.randrange(1, 5)
    return rules_text(
        sources=f"sources {weighted};",
        changes=source.choice(["", "", 'change "d" to "e";', 'change "e" to ""; change "d" to "a b";']),
        banned=source.choice(["", "", 'ban "f";', 'ban "f", "ab";']),
        lines=source.choice(["", "", "lines least 2;", "lines common 2;", "lines least 1, common 3;"]),
        hidden=source.choice(["", "", 'hide "c", any 0 to 1;', "hide digit 1 to 2; hide letter 3;"]),
        documents=source.choice(["documents least 1;", "documents least 3;"]),
        shares=source.choice(["", "", "share digit 1 to 3: 1 of 4;", 'share "a": 2 of 3; share any 2: 0 of 1;']),
        alike=f"alike {source.randrange(1, alike_of + 1)} of {alike_of}, runs of {source.randrange(1, 4)};",
        phrases=f"phrases {source.choice([1, 2, 2, 3])};",
        pieces=f"pieces least {source.randrange(1, 4)};",
        joins=f"joins {source.choice([0, 1, 3, 6])};",
        pages=f"pages {source.randrange(1, 12)};",
        volumes=f"volumes {source.randrange(1, 5)};",
    )


def random_text(source, most=24):
    words = ["a", "b", "c", "ab", "d", "e", "f", "7", "42", "cd", "abc"]
    return "".join(
        source.choice(words) + source.choice([" ", " ", " ", "\n"]) for _ in range(source.randrange(most))
    )


def random_exams(source):
    return [random_text(source, 6) for _ in range(source.randrange(3))]


def random_contents(source):
    text = random_rules(source)
    many = len(parse_rules(text).sources)
    numbers = sorted(source.sample(range(40), source.randrange(7)))
    pool = [random_text(source) for _ in range(4)]
    documents = []
    for number in numbers:
        documents.append((number, source.randrange(many), source.choice(pool) + random_text(source, 6)))
    return Contents(text, documents, random_exams(source))


def random_deed(source, numbers):
    """Return a deed that is perhaps refused, for a book with about these documents."""
    kind = source.choice(["add", "add", "add", "replace", "remove", "rules", "exams", "publish", "publish"])
    number = source.choice(numbers)
    if kind == "add":
        return ("add", number, source.choice(SOURCES), random_text(source))
    if kind == "replace":
        return ("replace", number, random_text(source))
    if kind == "remove":
        return ("remove", number)
    if kind == "rules":
        return ("rules", random_rules(source))
    if kind == "exams":
        return ("exams", random_exams(source))
    return ("publish",)
