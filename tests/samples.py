"""Texts of rules and Rules objects for the tests."""

from corpuskeep.grammar import parse_rules

# The parts of a text of rules in their order; those that may be missing are empty.
PARTS = {
    "sources": "sources a 1;",
    "changes": "",
    "banned": "",
    "lines": "",
    "hidden": "",
    "mark": 'mark "#";',
    "documents": "documents least 1;",
    "shares": "",
    "alike": "alike 1 of 2, runs of 3;",
    "phrases": "phrases 2;",
    "pieces": "pieces least 1;",
    "joins": "joins 5;",
    "pages": "pages 8;",
    "volumes": "volumes 4;",
}

FIELDS = [
    "sources", "changes", "banned", "line_words", "line_documents", "hidden", "mark", "document_words", "shares",
    "alike_least", "alike_of", "run_words", "phrase_words", "piece_words", "join_limit", "page_codes",
    "volume_pages",
]

FULL_TEXT = """sources news 3, school_2 14;
change "A" to "a"; change "-" to ""; change "&" to " and "; change \"\"\"\" to "''";
ban "foo", "b""ar";
lines least 2, common 3;
hide digit 1 to 9, letter; hide "x", any 0 to 2;
mark "<#>";
documents least 5;
share letter 0 to 3, digit 2: 1 of 4; share any: 0 of 7;
alike 2 of 3, runs of 4;
phrases 6; pieces least 7; joins 8; pages 9; volumes 10;
"""


def rules_text(**changed):
    """Return a text of rules, one line for each part, with these parts instead of the plain ones."""
    return "".join(part + "\n" for part in {**PARTS, **changed}.values())


def make_rules(**changed):
    return parse_rules(rules_text(**changed))


def fields(rules):
    """Return the fields of a Rules object as a dict."""
    return {name: getattr(rules, name) for name in FIELDS}
