"""[r7] and [r8]: the faults of texts of rules, with their places, their messages and their precedence."""

import unittest

from corpuskeep.errors import CorpusError, RulesFault
from corpuskeep.grammar import find_fault, parse_rules
from corpuskeep.signs import read_signs
from tests.samples import FULL_TEXT, rules_text

# The parts as rules_text orders them: the line on which each stands when all are of one line.
LINE = {
    name: at + 1 for at, name in enumerate([
        "sources", "changes", "banned", "lines", "hidden", "mark", "documents", "shares", "alike", "phrases",
        "pieces", "joins", "pages", "volumes",
    ])
}


def offset(text, line, column):
    """Return the index of a place."""
    rows = text.split("\n")
    return sum(len(row) + 1 for row in rows[:line - 1]) + column - 1


def refusal(text):
    """Return the message for a sign behind this beginning of FULL_TEXT that does not continue it."""
    nothing = text.rstrip().endswith(("share letter 0", "share letter 0 to 3"))
    return "shape of nothing" if nothing else "unexpected sign"


class Faults(unittest.TestCase):
    def fault(self, text):
        """Return the fault of a text, after checking that parse_rules tells the same."""
        found = find_fault(text)
        if found is None:
            parse_rules(text)
            return None
        with self.assertRaises(RulesFault) as caught:
            parse_rules(text)
        error = caught.exception
        self.assertEqual((error.line, error.column, error.message), found)
        return found

    def check(self, part, text, column, message):
        """Check the fault of rules with one part of one line that is not good."""
        self.assertEqual(self.fault(rules_text(**{part: text})), (LINE[part], column, message), text)


class FindTest(Faults):
    def test_the_examples(self):
        self.assertEqual(self.fault("sources a 0;"), (1, 11, "number must be at least 1"))
        self.assertEqual(self.fault(""), (1, 1, "unexpected sign"))

    def test_a_good_text(self):
        self.assertIsNone(self.fault(FULL_TEXT))
        self.assertIsNone(self.fault(rules_text()))

    def test_the_error(self):
        for base in (RulesFault, CorpusError, ValueError):
            with self.assertRaises(base):
                parse_rules("sources a 0;")

    def test_the_tuple(self):
        self.assertIs(type(find_fault("")), tuple)


class SignFaultTest(Faults):
    def test_each_sign_fault(self):
        self.check("sources", "sources a$ 1;", 10, "unexpected character")
        self.check("sources", "sources " + "a" * 21 + " 1;", 29, "name too long")
        text = rules_text(mark='mark "#')
        # The text of the quotes goes on behind its line, to the end of all.
        self.assertEqual(self.fault(text), (15, 1, "quoted text without an end"))

    def test_a_sign_fault_before_each_sign(self):
        for kind, _, line, column in read_signs(FULL_TEXT):
            at = offset(FULL_TEXT, line, column)
            text = FULL_TEXT[:at] + " $ \"" + FULL_TEXT[at:]
            self.assertEqual(self.fault(text), (line, column + 1, "unexpected character"), text)

    def test_a_sign_fault_comes_before_shape_of_nothing(self):
        self.check("hidden", "hide letter 0 $;", 15, "unexpected character")
        self.check("hidden", "hide letter 0 " + "x" * 21, 35, "name too long")
        self.assertEqual(self.fault('sources a 1; hide letter 0 "'), (1, 29, "quoted text without an end"))

    def test_an_earlier_fault_comes_before_a_sign_fault(self):
        self.check("sources", "sources a 0 $", 11, "number must be at least 1")
        self.check("sources", "sources a ; $", 11, "unexpected sign")

    def test_a_sign_fault_behind_the_last_sign(self):
        self.assertEqual(self.fault(rules_text() + "$"), (15, 1, "unexpected character"))


class UnexpectedSignTest(Faults):
    def test_the_end_too_early_behind_each_sign(self):
        for _, _, line, column in read_signs(FULL_TEXT)[:-1]:
            text = FULL_TEXT[:offset(FULL_TEXT, line, column)]
            _, _, end_line, end_column = read_signs(text)[-1]
            self.assertEqual(self.fault(text), (end_line, end_column, refusal(text)), text)

    def test_a_name_where_none_may_stand(self):
        for _, value, line, column in read_signs(FULL_TEXT):
            if value in ("news", "school_2"):
                continue
            at = offset(FULL_TEXT, line, column)
            found = self.fault(FULL_TEXT[:at] + " other_name " + FULL_TEXT[at:])
            self.assertEqual(found, (line, column + 1, refusal(FULL_TEXT[:at])), FULL_TEXT[:at])

    def test_a_quoted_text_where_none_may_stand(self):
        for kind, value, line, column in read_signs(FULL_TEXT):
            if kind == "quoted" or value in ("digit", "letter", "any"):
                continue
            at = offset(FULL_TEXT, line, column)
            found = self.fault(FULL_TEXT[:at] + ' "x" ' + FULL_TEXT[at:])
            self.assertEqual(found, (line, column + 1, refusal(FULL_TEXT[:at])), FULL_TEXT[:at])

    def test_a_sign_behind_the_last_one(self):
        for sign in ("a", "volumes", "1", '"x"', ",", ";", ":"):
            self.assertEqual(self.fault(rules_text() + sign), (15, 1, "unexpected sign"), sign)
            self.assertEqual(self.fault(rules_text() + "\n " + sign + " $"), (16, 2, "unexpected sign"), sign)

    def test_blanks_behind_the_last_sign(self):
        self.assertIsNone(self.fault(rules_text() + " \n\n "))
        self.assertIsNone(self.fault(rules_text().rstrip()))

    def test_a_reserved_name_and_another_one(self):
        self.check("sources", "Sources a 1;", 1, "unexpected sign")
        self.check("sources", "sources change 1;", 9, "unexpected sign")
        self.check("sources", "sources a 1, of 1;", 14, "unexpected sign")
        self.check("mark", 'make "#";', 1, "unexpected sign")
        self.check("hidden", "hide letters;", 6, "unexpected sign")

    def test_the_order_of_the_parts(self):
        self.check("banned", 'ban "a"; change "b" to "c";', 10, "unexpected sign")
        self.check("banned", 'ban "a"; ban "b";', 10, "unexpected sign")
        self.check("lines", 'lines least 1; ban "a";', 16, "unexpected sign")
        self.check("lines", "lines least 1; lines common 2;", 16, "unexpected sign")
        self.check("hidden", "hide letter; lines least 1;", 14, "unexpected sign")
        self.check("mark", 'mark "#"; hide letter;', 11, "unexpected sign")
        self.check("shares", 'share letter: 1 of 2; mark "#";', 23, "unexpected sign")
        self.check("sources", "sources a 1; sources b 1;", 14, "unexpected sign")

    def test_a_missing_part(self):
        for part in ("sources", "mark", "documents", "alike", "phrases", "pieces", "joins", "pages"):
            # The part that follows begins on the next line that is not empty.
            text = rules_text(**{part: ""})
            line = LINE[part] + 1
            while text.split("\n")[line - 1] == "":
                line += 1
            self.assertEqual(self.fault(text), (line, 1, "unexpected sign"), part)
        self.assertEqual(self.fault(rules_text(volumes="")), (15, 1, "unexpected sign"))

    def test_wrong_signs_in_each_part(self):
        cases = [
            ("sources", "sources;", 8), ("sources", "sources a;", 10), ("sources", 'sources "a" 1;', 9),
            ("sources", "sources a 1 b 2;", 13), ("sources", "sources a 1,;", 13), ("sources", "sources 1 a;", 9),
            ("changes", 'change a to "b";', 8), ("changes", 'change "a" "b";', 12), ("changes", 'change "a" to b;', 15),
            ("changes", 'change "a" to "b", "c" to "d";', 18), ("changes", 'change 1 to "b";', 8),
            ("banned", "ban;", 4), ("banned", "ban a;", 5), ("banned", 'ban "a" "b";', 9), ("banned", 'ban "a",;', 9),
            ("lines", "lines;", 6), ("lines", "lines 2;", 7), ("lines", "lines least;", 12),
            ("lines", "lines least 2 common 3;", 15), ("lines", "lines least 2,;", 15),
            ("lines", "lines least 2, least 3;", 16), ("lines", "lines common 2, least 3;", 15),
            ("lines", 'lines common "2";', 14),
            ("hidden", "hide;", 5), ("hidden", "hide 2 letter;", 6), ("hidden", "hide letter to 2;", 13),
            ("hidden", "hide letter 1 2;", 15), ("hidden", "hide letter 1 to;", 17),
            ("hidden", "hide letter 1 to 2 to 3;", 20), ("hidden", "hide letter 1 to 2 3;", 20),
            ("hidden", "hide letter,;", 13), ("hidden", "hide letter digit;", 13), ("hidden", "hide letter: 1 of 2;", 12),
            ("mark", "mark #;", 6), ("mark", "mark m;", 6), ("mark", 'mark "a", "b";', 9), ("mark", "mark 1;", 6),
            ("documents", "documents 1;", 11), ("documents", 'documents least "1";', 17),
            ("documents", "documents least 1, 2;", 18),
            ("shares", "share letter;", 13), ("shares", "share: 1 of 2;", 6), ("shares", "share letter: of 2;", 15),
            ("shares", "share letter: 1, 2;", 16), ("shares", "share letter: 1 of;", 19),
            ("alike", "alike 1, 2;", 8), ("alike", "alike 1 of 2;", 13), ("alike", "alike 1 of 2, runs 3;", 20),
            ("alike", "alike 1 of 2 runs of 3;", 14), ("alike", "alike of 2, runs of 3;", 7),
            ("phrases", "phrases least 2;", 9), ("phrases", "phrases;", 8), ("pieces", "pieces 2;", 8),
            ("joins", "joins least 2;", 7), ("joins", "joins 2", 1), ("pages", "pages of 2;", 7),
            ("volumes", "volumes 2:", 10),
        ]
        for part, text, column in cases:
            if text == "joins 2":
                # The missing semicolon is missed at the next sign, on the next line.
                self.assertEqual(self.fault(rules_text(joins=text)), (LINE["pages"], 1, "unexpected sign"))
            elif text == "mark #;":
                self.check(part, text, column, "unexpected character")
            else:
                self.check(part, text, column, "unexpected sign")


class ShapeOfNothingTest(Faults):
    def test_at_the_sign_behind_the_shape(self):
        message = "shape of nothing"
        self.check("hidden", "hide letter 0;", 14, message)
        self.check("hidden", "hide letter 0 to 5 ;", 20, message)
        self.check("hidden", 'hide letter 0, "x" 0 to 2, digit 0 to 0;', 40, message)
        self.check("shares", "share letter 0: 1 of 2;", 15, message)
        self.check("shares", "share any 0 to 9, any 0 : 1 of 2;", 25, message)

    def test_it_comes_before_unexpected_sign(self):
        message = "shape of nothing"
        for sign in ("digit", ":", '"ab"', "7", "a", "hide", "of", '""'):
            self.check("hidden", f"hide letter 0 {sign};", 15, message)
        for sign in ("7", "to 7", "letter", ":"):
            self.check("hidden", f"hide letter 0 to 5 {sign};", 20, message)
        self.check("shares", "share letter 0; 1 of 2;", 15, message)

    def test_at_the_end_of_the_text(self):
        self.assertEqual(self.fault("sources a 1; hide any 0 "), (1, 25, "shape of nothing"))
        self.assertEqual(self.fault("sources a 1; hide any 0 to 3\n"), (2, 1, "shape of nothing"))
        self.assertEqual(self.fault("sources a 1; hide any 0,"), (1, 25, "unexpected sign"))
        self.assertEqual(self.fault("sources a 1; hide any 0 to"), (1, 27, "unexpected sign"))
        self.assertEqual(self.fault("sources a 1; hide any"), (1, 22, "unexpected sign"))

    def test_the_shape_goes_on(self):
        for text in ("hide letter 0, letter;", "hide letter 0 to 0, any 2 to 3;", "hide letter, any 0;"):
            self.assertIsNone(self.fault(rules_text(hidden=text)), text)

    def test_not_where_the_elements_do_not_stand_directly_before(self):
        self.check("hidden", "hide letter 0,;", 15, "unexpected sign")
        self.check("hidden", "hide letter 0 to;", 17, "unexpected sign")
        self.check("hidden", "hide letter 0, 5;", 16, "unexpected sign")
        self.check("hidden", 'hide letter 0, "ab";', 16, "not a single character")

    def test_not_where_a_least_number_is_greater(self):
        self.check("hidden", "hide letter 0, letter :", 23, "unexpected sign")
        self.check("hidden", "hide letter 1 to 2 7;", 20, "unexpected sign")


class ConditionsTest(Faults):
    def test_already_used(self):
        self.check("sources", "sources a 1, a 2;", 14, "already used")
        self.check("sources", "sources a 1, b 1, a 1;", 19, "already used")
        self.check("sources", "sources a 1, a", 14, "already used")
        self.check("changes", 'change "x" to "y"; change "x" to "y";', 27, "already used")
        self.check("changes", 'change "x" to "y"; change "z" to "x"; change "z" to "";', 46, "already used")
        self.check("changes", 'change """" to "a"; change """" to "b";', 28, "already used")

    def test_not_a_single_character(self):
        message = "not a single character"
        self.check("changes", 'change "" to "y";', 8, message)
        self.check("changes", 'change "xx" to "y";', 8, message)
        self.check("changes", 'change """""" to "y";', 8, message)
        self.check("hidden", 'hide "";', 6, message)
        self.check("hidden", 'hide "letter";', 6, message)
        self.check("shares", 'share digit, "ab" 2: 1 of 2;', 14, message)

    def test_not_a_single_character_comes_before_already_used(self):
        text = 'change "x" to "y"; change "xx" to "y";'
        self.check("changes", text, 27, "not a single character")

    def test_not_a_word(self):
        for quoted in ('""', '" "', '"a b"', '" a"', '"a "'):
            self.check("banned", f"ban {quoted};", 5, "not a word")
            self.check("banned", f'ban "a", {quoted};', 10, "not a word")
            self.check("mark", f"mark {quoted};", 6, "not a word")
        self.assertEqual(self.fault(rules_text(banned='ban "a\nb";')), (3, 5, "not a word"))
        self.assertEqual(self.fault(rules_text(mark='mark "\n";')), (6, 6, "not a word"))

    def test_mark_would_be_hidden(self):
        message = "mark would be hidden"
        self.assertEqual(self.fault(rules_text(hidden="hide any;")), (6, 6, message))
        self.assertEqual(self.fault(rules_text(hidden='hide letter; hide "#" 1 to 3;')), (6, 6, message))
        text = rules_text(hidden="hide any 0 to 9, digit, any;", mark='mark "a11";')
        self.assertEqual(self.fault(text), (6, 6, message))
        self.assertIsNone(self.fault(rules_text(hidden="hide any 2 to 9;")))

    def test_not_a_word_comes_before_mark_would_be_hidden(self):
        text = rules_text(hidden="hide any 1 to 9;", mark='mark "a b";')
        self.assertEqual(self.fault(text), (6, 6, "not a word"))

    def test_number_must_be_at_least_1(self):
        cases = [
            ("sources", "sources a 0;", 11), ("sources", "sources a 1, b 00;", 16),
            ("documents", "documents least 0;", 17), ("shares", "share letter: 1 of 0;", 20),
            ("alike", "alike 0 of 2, runs of 1;", 7), ("alike", "alike 0 of 0, runs of 1;", 7),
            ("alike", "alike 1 of 2, runs of 0;", 23), ("phrases", "phrases 0;", 9), ("pieces", "pieces least 0;", 14),
            ("pages", "pages 0;", 7), ("volumes", "volumes 000;", 9),
        ]
        for part, text, column in cases:
            self.check(part, text, column, "number must be at least 1")

    def test_numbers_that_may_be_0(self):
        for changed in (
            {"lines": "lines least 0, common 0;"}, {"joins": "joins 0;"}, {"shares": "share letter: 0 of 1;"},
            {"hidden": "hide letter 0, digit;"},
        ):
            self.assertIsNone(self.fault(rules_text(**changed)), changed)

    def test_number_too_small(self):
        message = "number too small"
        self.check("hidden", "hide letter 3 to 2;", 18, message)
        self.check("hidden", "hide letter 1 to 0;", 18, message)
        self.check("shares", "share letter, digit 40 to 39: 1 of 2;", 27, message)
        self.check("alike", "alike 3 of 2, runs of 1;", 12, message)
        self.check("alike", "alike 1 of 0, runs of 1;", 12, message)
        self.check("hidden", "hide letter 3 to 2 $", 18, message)

    def test_the_first_fault_is_told(self):
        self.check("sources", "sources a 0, a 0;", 11, "number must be at least 1")
        self.check("hidden", 'hide letter 2 to 1, "";', 18, "number too small")
        self.check("changes", 'change "ab" b;', 8, "not a single character")


if __name__ == "__main__":
    unittest.main()
