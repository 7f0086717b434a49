"""[r11] each limit of the rules, at the limit and one beyond it."""

import unittest

from corpuskeep.grammar import parse_rules
from corpuskeep.rules import within_limits
from tests.samples import FULL_TEXT, make_rules


def many(count, make, between=" "):
    return between.join(make(at) for at in range(count))


def sources(count, weight=1):
    return "sources " + many(count, lambda at: f"s{at} {weight}", ", ") + ";"


def changes(count, size=1):
    return many(count, lambda at: f'change "{at}" to "{"x" * size}";')


def banned(count, size=1):
    return "ban " + many(count, lambda at: f'"{"x" * size}"', ", ") + ";"


def shape(count, number="1"):
    return many(count, lambda at: f"digit {number}", ", ")


def hidden(count, parts=1, number="1"):
    return many(count, lambda at: f"hide {shape(parts, number)};")


def shares(count, parts=1, number="1", p=1, q=1):
    return many(count, lambda at: f"share {shape(parts, number)}: {p} of {q};")


class LimitsTest(unittest.TestCase):
    def both(self, part, at_limit, beyond):
        self.assertIs(within_limits(make_rules(**{part: at_limit})), True, at_limit)
        self.assertIs(within_limits(make_rules(**{part: beyond})), False, beyond)

    def test_good_rules(self):
        self.assertIs(within_limits(make_rules()), True)
        self.assertIs(within_limits(parse_rules(FULL_TEXT)), True)

    def test_sources(self):
        self.both("sources", sources(4), sources(5))
        self.both("sources", sources(4, 100), sources(4, 101))
        self.both("sources", "sources a 1, b 100;", "sources a 1, b 101;")

    def test_changes(self):
        self.both("changes", changes(8), changes(9))
        self.both("changes", changes(8, 8), changes(1, 9))
        self.both("changes", changes(1, 0), 'change "a" to ""; change "b" to "123456789";')

    def test_banned(self):
        self.both("banned", banned(8), banned(9))
        self.both("banned", banned(8, 20), banned(1, 21))
        self.both("banned", 'ban "a";', f'ban "a", "{"b" * 21}";')

    def test_hidden(self):
        self.both("hidden", hidden(4), hidden(5))
        self.both("hidden", hidden(4, 6), hidden(1, 7))
        self.both("hidden", hidden(4, 6, "40"), hidden(1, 1, "41"))
        self.both("hidden", hidden(1, 1, "0 to 40, letter"), hidden(1, 1, "0 to 41, letter"))
        self.both("hidden", "hide digit 1; hide digit 40 to 40;", "hide digit 1; hide digit 40 to 41;")

    def test_shares(self):
        self.both("shares", shares(4), shares(5))
        self.both("shares", shares(4, 6), shares(1, 7))
        self.both("shares", shares(4, 6, "40"), shares(1, 1, "41"))
        self.both("shares", shares(1, 1, "39 to 40"), shares(1, 1, "40 to 41"))
        self.both("shares", shares(4, p=100), shares(1, p=101))
        self.both("shares", shares(4, q=100), shares(1, q=101))

    def test_mark(self):
        self.both("mark", f'mark "{"x" * 20}";', f'mark "{"x" * 21}";')

    def test_single_numbers(self):
        cases = [
            ("alike", "alike 1 of 1, runs of {};", 20), ("phrases", "phrases {};", 20), ("joins", "joins {};", 30),
            ("pages", "pages {};", 64), ("volumes", "volumes {};", 16), ("lines", "lines least {};", 100),
            ("lines", "lines common {};", 100), ("documents", "documents least {};", 100),
            ("alike", "alike 1 of {}, runs of 1;", 100), ("alike", "alike {0} of {0}, runs of 1;", 100),
            ("pieces", "pieces least {};", 100),
        ]
        for part, text, limit in cases:
            self.both(part, text.format(limit), text.format(limit + 1))

    def test_all_limits_together(self):
        rules = make_rules(
            sources=sources(4, 100), changes=changes(8, 8), banned=banned(8, 20), lines="lines least 100, common 100;",
            hidden=hidden(4, 6, "40"), mark=f'mark "{"x" * 20}";', documents="documents least 100;",
            shares=shares(4, 6, "40", 100, 100), alike="alike 100 of 100, runs of 20;", phrases="phrases 20;",
            pieces="pieces least 100;", joins="joins 30;", pages="pages 64;", volumes="volumes 16;",
        )
        self.assertIs(within_limits(rules), True)

    def test_very_great_numbers(self):
        self.assertIs(within_limits(make_rules(pages="pages 999999999999999;")), False)


if __name__ == "__main__":
    unittest.main()
