"""What holds for the whole package: its interface, and the plain rules of ../shared/LANGUAGE.md."""

import ast
import inspect
import pathlib
import unittest

from ruleswood import entries, errors, fitting, growing, meetings, order, sparing, steps, terms, texts

PACKAGE = pathlib.Path(__file__).resolve().parent.parent / "ruleswood"
FILES = sorted(PACKAGE.rglob("*.py"))
FUNCTIONS = {
    terms: {
        "blanks": ["term"],
        "size": ["term"],
        "places": ["term"],
        "part_at": ["term", "place"],
        "put_at": ["term", "place", "new"],
        "filled": ["term", "filling"],
    },
    texts: {
        "shown": ["term"],
        "read": ["text"],
        "shown_pair": ["left", "right"],
        "read_pair": ["text"],
    },
    fitting: {
        "fitted": ["pattern", "term"],
        "met": ["one", "other", "most"],
    },
    meetings: {
        "meetings": ["rule", "other", "most"],
    },
    steps: {
        "step_fits": ["left", "right", "before", "place", "after"],
        "walked": ["book", "start", "chain"],
        "turned": ["start", "chain"],
        "worn": ["term", "rules", "most"],
    },
    sparing: {
        "spared": ["order", "pairs", "most"],
    },
}
METHODS = {
    order.Order: {
        "__init__": ["signs"],
        "fits": ["term"],
        "weight": ["term"],
        "greater": ["one", "other"],
        "told": ["one", "other"],
    },
    entries.Entry: {
        "__init__": ["number", "left", "right", "chain"],
    },
    growing.Wood: {
        "__init__": ["order", "pairs", "heaviest", "most_entries"],
        "grow": ["most"],
        "standing": [],
        "told": ["one", "other", "most"],
    },
}
CLASSES = {
    order.Order: "ruleswood.order",
    entries.Entry: "ruleswood.entries",
    growing.Wood: "ruleswood.growing",
}
# Point 1: no clock, no chance, no files. So nothing of these is imported or called.
BARRED = {"open", "print", "input", "eval", "exec", "hash", "id", "float", "complex", "round", "globals", "locals"}


class InterfaceTest(unittest.TestCase):
    def test_functions_and_their_arguments(self):
        for module, functions in FUNCTIONS.items():
            for name, names in functions.items():
                with self.subTest(function=name):
                    function = getattr(module, name)
                    self.assertEqual(function.__module__, module.__name__)
                    self.assertEqual(list(inspect.signature(function).parameters), names)

    def test_methods_stand_in_the_class_itself(self):
        for kind, methods in METHODS.items():
            self.assertEqual(kind.__module__, CLASSES[kind])
            for name, names in methods.items():
                with self.subTest(kind=kind.__name__, method=name):
                    signature = inspect.signature(vars(kind)[name])
                    self.assertEqual(list(signature.parameters), ["self"] + names)

    def test_errors_are_defined_in_their_file(self):
        for name in ("WoodError", "BadOrder", "NoTerm", "NoPlace", "BadText", "TooHeavy", "TooLong"):
            self.assertEqual(getattr(errors, name).__module__, "ruleswood.errors")


class LanguageTest(unittest.TestCase):
    def test_files_are_ascii_and_of_the_told_size(self):
        self.assertTrue(FILES)
        for path in FILES:
            lines = path.read_text(encoding="utf-8").split("\n")
            with self.subTest(path=path.name):
                self.assertLessEqual(len(lines), 399)
                for line in lines:
                    self.assertLessEqual(len(line), 120, line)
                    self.assertTrue(all(" " <= letter <= "~" for letter in line), line)

    def test_functions_have_at_most_forty_lines(self):
        for path in FILES:
            for node in ast.walk(ast.parse(path.read_text())):
                if isinstance(node, ast.FunctionDef):
                    self.assertLessEqual(node.end_lineno - node.lineno + 1, 40, node.name)

    def test_only_the_package_is_imported(self):
        for path in FILES:
            for node in ast.walk(ast.parse(path.read_text())):
                self.assertNotIsInstance(node, ast.Import, path.name)
                if isinstance(node, ast.ImportFrom):
                    self.assertTrue(node.module.startswith("ruleswood."), path.name)

    def test_nothing_barred_is_named(self):
        for path in FILES:
            names = {node.id for node in ast.walk(ast.parse(path.read_text())) if isinstance(node, ast.Name)}
            self.assertFalse(names & BARRED, path.name)


if __name__ == "__main__":
    unittest.main()
