"""[r6] the grammar, [r7] further conditions at their edges, [r9] the fields of the Rules object, [c7]."""

import unittest

from corpuskeep.grammar import find_fault, parse_rules
from corpuskeep.rules import Rules
from tests.samples import FIELDS, FULL_TEXT, fields, make_rules, rules_text

RESERVED = (
    "sources change to ban lines least common hide letter digit any mark documents share of alike runs phrases "
    "pieces joins pages volumes"
).split()


class FieldsTest(unittest.TestCase):
    def test_rules_with_every_part(self):
        self.assertEqual(fields(parse_rules(FULL_TEXT)), {
            "sources": [("news", 3), ("school_2", 14)],
            "changes": [("A", "a"), ("-", ""), ("&", " and "), ('"', "''")],
            "banned": ["foo", 'b"ar'],
            "line_words": 2,
            "line_documents": 3,
            "hidden": [[("digit", 1, 9), ("letter", 1, 1)], [("x", 1, 1), ("any", 0, 2)]],
            "mark": "<#>",
            "document_words": 5,
            "shares": [([("letter", 0, 3), ("digit", 2, 2)], 1, 4), ([("any", 1, 1)], 0, 7)],
            "alike_least": 2,
            "alike_of": 3,
            "run_words": 4,
            "phrase_words": 6,
            "piece_words": 7,
            "join_limit": 8,
            "page_codes": 9,
            "volume_pages": 10,
        })

    def test_rules_without_what_may_be_missing(self):
        self.assertEqual(fields(make_rules()), {
            "sources": [("a", 1)], "changes": [], "banned": [], "line_words": 0, "line_documents": 0, "hidden": [],
            "mark": "#", "document_words": 1, "shares": [], "alike_least": 1, "alike_of": 2, "run_words": 3,
            "phrase_words": 2, "piece_words": 1, "join_limit": 5, "page_codes": 8, "volume_pages": 4,
        })

    def test_the_object(self):
        rules = parse_rules(FULL_TEXT)
        self.assertIs(type(rules), Rules)
        self.assertEqual(sorted(vars(rules)), sorted(FIELDS))
        for name in ("sources", "changes", "banned", "hidden", "shares"):
            self.assertIs(type(getattr(rules, name)), list, name)
        self.assertIs(type(rules.hidden[0]), list)
        self.assertIs(type(rules.hidden[0][0]), tuple)
        self.assertIs(type(rules.shares[0]), tuple)
        self.assertIs(type(rules.sources[0]), tuple)

    def test_each_last_number_has_its_field(self):
        rules = make_rules(
            documents="documents least 11;", alike="alike 12 of 13, runs of 14;", phrases="phrases 15;",
            pieces="pieces least 16;", joins="joins 17;", pages="pages 18;", volumes="volumes 19;",
        )
        numbers = [
            rules.document_words, rules.alike_least, rules.alike_of, rules.run_words, rules.phrase_words,
            rules.piece_words, rules.join_limit, rules.page_codes, rules.volume_pages,
        ]
        self.assertEqual(numbers, list(range(11, 20)))


class PartsTest(unittest.TestCase):
    def test_one_part_at_a_time(self):
        cases = [
            ({"sources": "sources b 2, a 1, c 1;"}, "sources", [("b", 2), ("a", 1), ("c", 1)]),
            ({"changes": 'change "a" to "";'}, "changes", [("a", "")]),
            ({"changes": 'change "b" to "a"; change "a" to "b\n";'}, "changes", [("b", "a"), ("a", "b\n")]),
            ({"banned": 'ban "x";'}, "banned", ["x"]),
            ({"banned": 'ban "x", "y", "x";'}, "banned", ["x", "y", "x"]),
            ({"hidden": "hide digit;"}, "hidden", [[("digit", 1, 1)]]),
            ({"hidden": "hide digit; hide digit;"}, "hidden", [[("digit", 1, 1)], [("digit", 1, 1)]]),
            ({"shares": "share any: 1 of 1;"}, "shares", [([("any", 1, 1)], 1, 1)]),
            ({"shares": "share any: 3 of 2;"}, "shares", [([("any", 1, 1)], 3, 2)]),
            ({"mark": 'mark "many";'}, "mark", "many"),
            ({"joins": "joins 0;"}, "join_limit", 0),
        ]
        for changed, name, value in cases:
            rules = make_rules(**changed)
            self.assertEqual(getattr(rules, name), value, changed)
            # All other fields are what they are without this part.
            plain = fields(make_rules())
            self.assertEqual({**fields(rules), name: plain[name]}, plain, changed)

    def test_lines(self):
        cases = [
            ("", 0, 0), ("lines least 2;", 2, 0), ("lines common 3;", 0, 3), ("lines least 2, common 3;", 2, 3),
            ("lines least 0;", 0, 0), ("lines common 0;", 0, 0), ("lines least 0, common 0;", 0, 0),
        ]
        for text, words, documents in cases:
            rules = make_rules(lines=text)
            self.assertEqual((rules.line_words, rules.line_documents), (words, documents), text)

    def test_shapes(self):
        cases = [
            ("letter", [("letter", 1, 1)]), ("digit 1", [("digit", 1, 1)]), ("any 3", [("any", 3, 3)]),
            ("any 3 to 5", [("any", 3, 5)]), ("any 3 to 3", [("any", 3, 3)]), ('"x" 2', [("x", 2, 2)]),
            ('letter 0, "-" 1 to 2, digit 0 to 9', [("letter", 0, 0), ("-", 1, 2), ("digit", 0, 9)]),
            ('any 0 to 40, " "', [("any", 0, 40), (" ", 1, 1)]), ('""""', [('"', 1, 1)]), ('"\n"', [("\n", 1, 1)]),
            ("letter 0 to 0, letter", [("letter", 0, 0), ("letter", 1, 1)]),
        ]
        for text, shape in cases:
            self.assertEqual(make_rules(hidden=f"hide {text};").hidden, [shape], text)
            self.assertEqual(make_rules(shares=f"share {text}: 1 of 2;").shares, [(shape, 1, 2)], text)

    def test_signs_need_no_blanks(self):
        text = "".join(FULL_TEXT.split("\n"))
        self.assertEqual(fields(parse_rules(text)), fields(parse_rules(FULL_TEXT)))
        tight = (
            'sources a 1;mark"#";documents least 1;alike 1of 2,runs of 3;phrases 2;pieces least 1;joins 5;pages 8;'
            "volumes 4;"
        )
        self.assertEqual(fields(parse_rules(tight)), fields(make_rules()))
        wide = "\n ".join("sources a 01 ; mark \"#\" ; documents least 1 ; alike 1 of 02 , runs of 3 ;".split())
        wide += "\nphrases 2;pieces least\n001;joins 5;pages 8;volumes 0004 ;\n\n"
        self.assertEqual(fields(parse_rules(wide)), fields(make_rules()))


class ReservedTest(unittest.TestCase):
    def test_a_reserved_name_is_not_a_source(self):
        for name in RESERVED:
            self.assertEqual(find_fault(f"sources {name} 1;"), (1, 9, "unexpected sign"), name)

    def test_other_names_are_sources(self):
        for name in ("Sources", "TO", "source", "letters", "a", "of_", "least1", "kind", "rules"):
            self.assertEqual(make_rules(sources=f"sources {name} 1;").sources, [(name, 1)])

    def test_a_quoted_reserved_name_is_a_quoted_text(self):
        self.assertEqual(make_rules(banned='ban "ban", "to";').banned, ["ban", "to"])
        self.assertEqual(find_fault('"sources" a 1;'), (1, 1, "unexpected sign"))


class EdgesTest(unittest.TestCase):
    def test_good_edges_of_the_conditions(self):
        good = [
            {"sources": "sources a 1, A 1;"},
            {"changes": 'change "a" to "A"; change "A" to "a";'},
            {"changes": 'change " " to "\n"; change "\n" to " ";'},
            {"hidden": "hide letter 0, digit;"},
            {"hidden": "hide letter 2 to 2;"},
            {"hidden": "hide letter;", "mark": 'mark "aa";'},
            {"hidden": "hide letter 2;", "mark": 'mark "aaa";'},
            {"hidden": "hide letter;", "banned": 'ban "a";'},
            {"shares": 'share "#": 0 of 1;'},
            {"alike": "alike 1 of 1, runs of 1;"},
            {"alike": "alike 7 of 7, runs of 1;"},
        ]
        for changed in good:
            self.assertIsNone(find_fault(rules_text(**changed)), changed)

    def test_rules_beyond_the_limits_have_no_fault(self):
        text = rules_text(sources="sources a 999999999999999;", phrases="phrases 1000;", joins="joins 31;")
        self.assertIsNone(find_fault(text))
        self.assertEqual(parse_rules(text).sources, [("a", 999999999999999)])


if __name__ == "__main__":
    unittest.main()
