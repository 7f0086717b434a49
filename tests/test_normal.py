"""[r10] the normal text of rules."""

import itertools
import unittest

from corpuskeep.grammar import parse_rules
from corpuskeep.normal import format_rules
from tests.samples import FULL_TEXT, fields, make_rules, rules_text

NORMAL = """sources news 3, school_2 14;
change "A" to "a";
change "-" to "";
change "&" to " and ";
change \"\"\"\" to "''";
ban "foo", "b""ar";
lines least 2, common 3;
hide digit 1 to 9, letter;
hide "x", any 0 to 2;
mark "<#>";
documents least 5;
share letter 0 to 3, digit 2: 1 of 4;
share any: 0 of 7;
alike 2 of 3, runs of 4;
phrases 6;
pieces least 7;
joins 8;
pages 9;
volumes 10;
"""

PLAIN = """sources a 1;
mark "#";
documents least 1;
alike 1 of 2, runs of 3;
phrases 2;
pieces least 1;
joins 5;
pages 8;
volumes 4;
"""


def row(begin, **changed):
    """Return the rows of the normal text that begin so."""
    rows = format_rules(make_rules(**changed)).split("\n")
    return [found for found in rows if found.startswith(begin)]


class TextTest(unittest.TestCase):
    def test_rules_with_every_part(self):
        self.assertEqual(format_rules(parse_rules(FULL_TEXT)), NORMAL)

    def test_rules_without_what_may_be_missing(self):
        self.assertEqual(format_rules(make_rules()), PLAIN)

    def test_blanks_of_the_text_do_not_matter(self):
        text = " ".join(FULL_TEXT.split("\n"))
        self.assertEqual(format_rules(parse_rules(text)), NORMAL)
        tight = text.replace("; ", ";").replace(", ", ",").replace(": ", " :\n ").replace(" of", "\nof")
        self.assertEqual(format_rules(parse_rules(tight)), NORMAL)

    def test_lines(self):
        cases = [
            ("", []), ("lines least 0;", []), ("lines common 0;", []), ("lines least 0, common 0;", []),
            ("lines least 4;", ["lines least 4;"]), ("lines common 4;", ["lines common 4;"]),
            ("lines least 0, common 4;", ["lines common 4;"]), ("lines least 4, common 0;", ["lines least 4;"]),
            ("lines least 4, common 5;", ["lines least 4, common 5;"]),
        ]
        for text, rows in cases:
            self.assertEqual(row("lines", lines=text), rows, text)

    def test_shapes(self):
        cases = [
            ("letter", "letter"), ("letter 1", "letter"), ("letter 1 to 1", "letter"), ("digit 2", "digit 2"),
            ("digit 2 to 2", "digit 2"), ("any 2 to 3", "any 2 to 3"), ("any 0 to 1, any 3", "any 0 to 1, any 3"),
            ("letter 0, digit", "letter 0, digit"), ("letter 0 to 0, digit", "letter 0, digit"),
            ('"x" 01 to 002', '"x" 1 to 2'), ('""""', '""""'), ('"," , ":"  ,";"', '",", ":", ";"'),
        ]
        for text, normal in cases:
            self.assertEqual(row("hide", hidden=f"hide {text};"), [f"hide {normal};"], text)
            self.assertEqual(row("share", shares=f"share {text} : 1 of 2;"), [f"share {normal}: 1 of 2;"], text)

    def test_numbers_have_no_leading_zeros(self):
        self.assertEqual(row("sources", sources="sources a 007, b 0100;"), ["sources a 7, b 100;"])
        self.assertEqual(row("joins", joins="joins 000;"), ["joins 0;"])
        self.assertEqual(row("share", shares="share any: 00 of 0010;"), ["share any: 0 of 10;"])

    def test_doubled_quotes(self):
        self.assertEqual(row("ban", banned='ban """", "a""""b", """x""";'), ['ban """", "a""""b", """x""";'])
        self.assertEqual(row("mark", mark='mark """";'), ['mark """";'])
        self.assertEqual(row("change", changes='change """" to "";'), ['change """" to "";'])

    def test_blanks_inside_quotes_stay(self):
        text = format_rules(make_rules(changes='change "\n" to " , ;\n:  ";change " " to "\n";'))
        self.assertIn('change "\n" to " , ;\n:  ";\nchange " " to "\n";\n', text)

    def test_a_kind_of_one_letter_is_quoted(self):
        self.assertEqual(row("hide", hidden='hide "l", "a" 2;'), ['hide "l", "a" 2;'])


class RoundTest(unittest.TestCase):
    def test_normal_texts_are_kept(self):
        changed = {
            "sources": ["sources b 2 , a 1;"],
            "changes": ["", 'change """" to """";change "\n" to "";'],
            "banned": ["", 'ban "x" , "y""";'],
            "lines": ["", "lines least 3;", "lines common 00 ;", "lines least 1,common 2;"],
            "hidden": ["", 'hide letter 0 to 1, "-" 2 to 2; hide digit 1 to 7;'],
            "shares": ["", 'share """" 0 to 40, any: 0 of 1;'],
        }
        for values in itertools.product(*changed.values()):
            rules = make_rules(**dict(zip(changed, values)))
            text = format_rules(rules)
            again = parse_rules(text)
            self.assertEqual(fields(again), fields(rules), text)
            self.assertEqual(format_rules(again), text)

    def test_equal_fields_have_the_same_text(self):
        first = make_rules(lines="lines least 0;", hidden="hide digit 2 to 2;", joins="joins 05;")
        second = make_rules(hidden="hide digit 02;")
        self.assertEqual(fields(first), fields(second))
        self.assertEqual(format_rules(first), format_rules(second))

    def test_the_end_of_the_text(self):
        for text in (rules_text(), rules_text().rstrip(), FULL_TEXT):
            self.assertTrue(format_rules(parse_rules(text)).endswith(";\n"))


if __name__ == "__main__":
    unittest.main()
