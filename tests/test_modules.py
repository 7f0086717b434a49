"""[c6] which module may import which, the names of the interface, and the main rules of the language subset."""

import ast
import importlib
import inspect
import pathlib
import re
import unittest

PACKAGE = pathlib.Path(__file__).resolve().parent.parent / "corpuskeep"

# The modules in the order of [c6]; each imports the ones above it only.
MODULES = (
    "errors signs shapes rules grammar normal lines cleaning standing pieces fewest common shingles classes chains "
    "joining learning reading order filling volumes positions corpora fates books records journals compacting keepers "
    "papers checking"
).split()

FUNCTIONS = {
    "signs": {"read_signs": ["text"]},
    "rules": {"within_limits": ["rules"]},
    "grammar": {"parse_rules": ["text"], "find_fault": ["text"]},
    "normal": {"format_rules": ["rules"]},
    "shapes": {"has_shape": ["word", "shape"], "has_any_shape": ["word", "shapes"]},
    "lines": {
        "change_text": ["text", "changes"], "split_lines": ["changed"], "hide_words": ["lines", "hidden", "mark"],
        "text_lines": ["text", "rules"], "exam_words": ["text", "rules"],
    },
    "cleaning": {
        "count_lines": ["documents"], "line_fates": ["lines", "rules", "counts"], "left_words": ["lines", "fates"],
        "drop_reason": ["words", "rules"], "clean_documents": ["texts", "rules"],
    },
    "standing": {
        "phrase_standings": ["length", "texts", "words"], "phrase_cover": ["length", "texts", "words", "place"],
        "standing_places": ["length", "texts", "words"],
    },
    "pieces": {
        "uncovered_pieces": ["length", "texts", "words"], "covered_places": ["length", "texts", "words"],
    },
    "fewest": {"fewest_places": ["length", "texts", "words"]},
    "common": {"longest_common_run": ["texts", "words"]},
    "shingles": {
        "shingles": ["pieces", "length"], "compare": ["first", "second", "length", "over", "under"],
    },
    "classes": {
        "meeting_pairs": ["documents", "length"], "alike_pairs": ["documents", "length", "over", "under"],
        "group": ["documents", "length", "over", "under"], "kept_ids": ["documents", "length", "over", "under"],
    },
    "chains": {"told_chain": ["documents", "length", "over", "under", "number"]},
    "joining": {"make_join": ["codes", "pair", "code"], "word_codes": ["joins", "word"]},
    "learning": {
        "pair_gain": ["lists", "pair"], "best_pair": ["joins", "words"], "learn_joins": ["count", "words"],
        "join_gains": ["joins", "words"],
    },
    "reading": {
        "code_text": ["joins", "code"], "text_length": ["joins", "codes"], "read_codes": ["joins", "codes"],
        "read_stream": ["joins", "codes"],
    },
    "order": {
        "phases": ["weights", "counts"], "due": ["total", "weight", "placed"], "fair": ["weights", "counts", "phase"],
    },
    "filling": {"fill": ["stream", "size"], "deal": ["weights", "streams", "size"]},
    "volumes": {
        "write_number": ["n"], "read_number": ["data", "at"], "check_sum": ["data"], "write_volume": ["pages"],
        "read_volume": ["data"],
    },
    "positions": {"position": ["corpus", "page", "place"], "places_of": ["corpus", "number"]},
    "corpora": {
        "make_corpus": ["contents"], "exam_lists": ["contents"], "stream": ["corpus", "source"],
        "volumes": ["contents", "corpus"],
    },
    "fates": {"fate": ["contents", "corpus", "number"], "counts": ["contents", "corpus", "source"]},
    "records": {
        "write_deed": ["deed"], "read_deed": ["data"], "write_record": ["n", "body"],
        "read_record": ["data", "at", "n"],
    },
    "journals": {
        "empty_journal": [], "extend": ["journal", "deed"], "recover": ["data"], "seal": ["journal"],
        "is_sealed": ["data"], "choose": ["old", "new"],
    },
    "compacting": {"compact": ["book"]},
    "keepers": {"take_up": ["data"]},
    "papers": {
        "certificate": ["contents", "corpus"], "write_certificate": ["paper"], "read_certificate": ["data"],
    },
    "checking": {"why_not": ["contents", "corpus", "paper"], "accepts": ["contents", "corpus", "paper"]},
}
CLASSES = {
    "errors": [
        "CorpusError", "RulesFault", "TooLarge", "DuplicateDocument", "UnknownDocument", "UnknownSource",
        "OtherSources", "TooManyDocuments", "NotPublished", "InvalidBytes", "UnknownCode", "OutOfRange",
    ],
    "rules": ["Rules"],
    "corpora": ["Contents", "Corpus"],
    "books": ["Book"],
    "keepers": ["Keeper"],
}
# What each class is made with, and the methods that the interface lists for it.
METHODS = {
    "corpora.Contents": {"__init__": ["self", "rules_text", "documents", "exams", "rules"]},
    "books.Book": {"__init__": ["self", "rules_text"], "apply": ["self", "deed"], "now": ["self"], "last": ["self"]},
    "keepers.Keeper": {
        "__init__": ["self", "rules_text"], "do": ["self", "deed"], "journal": ["self"], "shorten": ["self"],
    },
}

BUILTINS = set(
    "len range enumerate zip min max sum abs sorted reversed int str bool list tuple dict set isinstance ord repr any "
    "all divmod ValueError KeyError super None True False".split()
)
LIBRARY = {"heapq", "math", "itertools", "collections"}
BARRED_WORDS = re.compile(r"\b(type|typing|enum|namedtuple|eval|exec|globals|locals|elements|register|open|input)\b")
BARRED_NODES = (
    ast.Global, ast.AsyncFunctionDef, ast.Await, ast.AsyncFor, ast.AsyncWith, ast.Div, ast.MatMult,
)


def files():
    return sorted(PACKAGE.rglob("*.py"))


def trees():
    return [(path, ast.parse(path.read_text())) for path in files()]


def without_docstrings(tree):
    for node in ast.walk(tree):
        if isinstance(node, (ast.Module, ast.ClassDef, ast.FunctionDef)) and ast.get_docstring(node) is not None:
            node.body = node.body[1:] or [ast.Pass()]
    return tree


class ImportsTest(unittest.TestCase):
    def test_each_module_imports_the_ones_above_it_only(self):
        for path, tree in trees():
            above = MODULES[:MODULES.index(path.stem)] if path.stem != "__init__" else MODULES
            for node in ast.walk(tree):
                self.assertNotIsInstance(node, ast.Import, path)
                if isinstance(node, ast.ImportFrom):
                    self.assertEqual(node.level, 0, path)
                    package, _, module = node.module.partition(".")
                    self.assertTrue(package in LIBRARY or package == "corpuskeep", path)
                    if package == "corpuskeep":
                        self.assertIn(module, above, path)
                    self.assertNotIn("*", [name.name for name in node.names], path)

    def test_imports_name_the_file_that_defines_the_name(self):
        for path, tree in trees():
            for node in ast.walk(tree):
                if isinstance(node, ast.ImportFrom) and node.module.startswith("corpuskeep."):
                    source = ast.parse((PACKAGE / (node.module.partition(".")[2] + ".py")).read_text())
                    for name in node.names:
                        self.assertIn(name.name, bound_names(source), path)

    def test_the_package_holds_only_its_modules(self):
        found = {path.name for path in PACKAGE.iterdir() if path.name != "__pycache__"}
        self.assertLessEqual(found, {f"{name}.py" for name in MODULES} | {"__init__.py"})


def bound_names(tree):
    """Return the names that a module defines itself."""
    names = set()
    for node in tree.body:
        if isinstance(node, (ast.FunctionDef, ast.ClassDef)):
            names.add(node.name)
        elif isinstance(node, ast.Assign):
            names.add(node.targets[0].id)
    return names


class InterfaceTest(unittest.TestCase):
    def test_functions(self):
        for module, functions in FUNCTIONS.items():
            found = importlib.import_module(f"corpuskeep.{module}")
            for name, parameters in functions.items():
                function = getattr(found, name)
                self.assertEqual(function.__module__, f"corpuskeep.{module}")
                self.assertEqual(list(inspect.signature(function).parameters), parameters, name)

    def test_classes(self):
        for module, names in CLASSES.items():
            found = importlib.import_module(f"corpuskeep.{module}")
            for name in names:
                self.assertEqual(getattr(found, name).__module__, f"corpuskeep.{module}")

    def test_methods_stand_in_their_class_itself(self):
        for path, methods in METHODS.items():
            module, _, name = path.partition(".")
            found = vars(getattr(importlib.import_module(f"corpuskeep.{module}"), name))
            for method, parameters in methods.items():
                self.assertEqual(list(inspect.signature(found[method]).parameters), parameters, (path, method))

    def test_parameters_that_may_be_left_out(self):
        left_out = inspect.Parameter.empty
        for function, name, value in (
            (importlib.import_module("corpuskeep.corpora").Contents, "rules", None),
            (importlib.import_module("corpuskeep.fates").counts, "source", None),
        ):
            for parameter in inspect.signature(function).parameters.values():
                wanted = value if parameter.name == name else left_out
                self.assertIs(parameter.default, wanted, function)


class LanguageTest(unittest.TestCase):
    def test_sizes(self):
        for path in files():
            rows = path.read_text().split("\n")
            self.assertLess(len(rows), 400, path)
            self.assertLessEqual(max(len(row) for row in rows), 120, path)
        for path, tree in trees():
            for node in ast.walk(tree):
                if isinstance(node, ast.FunctionDef):
                    self.assertLessEqual(node.end_lineno - node.lineno + 1, 40, (path, node.name))

    def test_characters(self):
        for path in files():
            self.assertLessEqual(set(path.read_text()), {"\n"} | {chr(code) for code in range(32, 127)}, path)

    def test_no_barred_word_and_no_percent_sign_in_strings(self):
        for path, tree in trees():
            for node in ast.walk(without_docstrings(tree)):
                names = [getattr(node, field, None) for field in ("id", "attr", "arg", "name")]
                if isinstance(node, ast.Constant):
                    names.append(node.value)
                    self.assertNotIsInstance(node.value, (float, complex), path)
                for name in names:
                    if isinstance(name, str):
                        self.assertNotIn("\u0025", name, path)
                        self.assertIsNone(BARRED_WORDS.search(name), (path, name))

    def test_no_barred_statements(self):
        for path, tree in trees():
            for node in ast.walk(tree):
                self.assertNotIsInstance(node, BARRED_NODES, path)

    def test_no_other_builtins(self):
        for path, tree in trees():
            known = set(BUILTINS) | bound_names(tree)
            for node in ast.walk(tree):
                if isinstance(node, ast.ImportFrom):
                    known |= {name.name for name in node.names}
                elif isinstance(node, ast.arg):
                    known.add(node.arg)
                elif isinstance(node, (ast.ExceptHandler, ast.MatchAs, ast.MatchStar)):
                    self.assertNotIn(node.name or "", BUILTINS, path)
                    known.add(node.name)
                elif isinstance(node, ast.Name) and isinstance(node.ctx, ast.Store):
                    self.assertNotIn(node.id, BUILTINS, path)
                    known.add(node.id)
            for node in ast.walk(tree):
                if isinstance(node, ast.Name):
                    self.assertIn(node.id, known, path)


if __name__ == "__main__":
    unittest.main()
