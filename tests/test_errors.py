"""[c4] the errors with their base classes and fields."""

import unittest

from corpuskeep import errors
from corpuskeep.errors import (
    CorpusError, DuplicateDocument, InvalidBytes, NotPublished, OtherSources, OutOfRange, RulesFault, TooLarge,
    TooManyDocuments, UnknownCode, UnknownDocument, UnknownSource,
)

PLAIN = [TooLarge, OtherSources, TooManyDocuments, NotPublished, OutOfRange]
WITH_FIELD = [
    (DuplicateDocument, "id", 17), (UnknownDocument, "id", 0), (UnknownSource, "name", "wiki"),
    (InvalidBytes, "at", 3), (UnknownCode, "code", 299),
]


class ErrorsTest(unittest.TestCase):
    def test_base_class(self):
        self.assertEqual(CorpusError.__bases__, (ValueError,))

    def test_each_error_is_directly_below_the_base_class(self):
        for kind in PLAIN + [RulesFault] + [kind for kind, name, value in WITH_FIELD]:
            self.assertEqual(kind.__bases__, (CorpusError,), kind)

    def test_no_other_error(self):
        found = [value for value in vars(errors).values() if isinstance(value, type)]
        self.assertEqual(len(found), 12)

    def test_rules_fault(self):
        error = RulesFault(3, 14, "not a word")
        self.assertEqual((error.line, error.column, error.message), (3, 14, "not a word"))
        self.assertEqual(vars(error), {"line": 3, "column": 14, "message": "not a word"})

    def test_errors_with_one_field(self):
        for kind, name, value in WITH_FIELD:
            self.assertEqual(vars(kind(value)), {name: value}, kind)

    def test_errors_without_fields(self):
        for kind in PLAIN:
            error = kind()
            self.assertEqual(vars(error), {}, kind)
            self.assertEqual(error.args, (), kind)

    def test_an_error_without_its_field_is_not_made(self):
        for kind, _, _ in WITH_FIELD:
            self.assertRaises(TypeError, kind)
        self.assertRaises(TypeError, RulesFault, 1, 2)

    def test_errors_are_caught_by_their_bases(self):
        for base in (RulesFault, CorpusError, ValueError):
            with self.assertRaises(base):
                raise RulesFault(1, 1, "unexpected sign")


if __name__ == "__main__":
    unittest.main()
