"""The interface stands in the files that the document names, and the files of
the package keep the limits of the language rules that can be counted."""

import ast
import importlib
import inspect
import pathlib
import unittest

PACKAGE = pathlib.Path(__file__).resolve().parent.parent / "lydite"

INTERFACE = {
    "terms": {
        "is_term": ["value"], "abstraction": ["body"],
        "application": ["function", "argument"], "free": ["term"],
        "lift": ["term", "count"], "put": ["term", "value"],
    },
    "places": {
        "places": ["term"], "part": ["term", "place"],
        "replace": ["term", "place", "value"], "comes_before": ["first", "second"],
    },
    "notation": {"parse": ["text", "names"], "show": ["term", "names"]},
    "roads": {
        "redexes": ["term"], "step": ["term", "place"], "follow": ["term", "road"],
        "passed": ["term", "road"],
    },
    "meeting": {
        "develop": ["term", "times"], "way": ["term"], "meet": ["term", "first", "second"],
    },
    "order": {
        "residuals": ["term", "place", "other"], "is_standard": ["term", "road"],
        "standard": ["term", "road"], "normal": ["term", "steps"],
        "first_steps": ["term", "count"],
    },
    "removal": {
        "needless": ["term"], "remove": ["term", "place"], "follow_mixed": ["term", "road"],
        "shrink": ["term"], "fully_normal": ["term", "steps"], "expand": ["term", "place"],
    },
    "heads": {
        "head": ["term"], "with_head": ["count", "variable", "arguments"],
        "head_normal": ["term", "steps"], "known": ["term"], "is_below": ["first", "second"],
        "least_above": ["first", "second"],
    },
    "looks": {"stretched": ["term", "count"], "are_alike": ["terms"], "turns": ["crowd"]},
    "apart": {
        "projection": ["index", "count"], "tupler": ["count"], "applied": ["term", "arguments"],
        "separate": ["crowd"], "tell": ["first", "second"], "choose": ["terms"],
    },
    "kinds": {
        "is_kind": ["value"], "renamed": ["kinds"], "is_instance": ["general", "special"],
        "joined": ["first", "second"], "principal": ["term"], "has_kinds": ["term", "kinds"],
    },
    "data": {
        "number": ["value"], "value_of": ["term"], "list_of": ["terms"], "items_of": ["term"],
        "names": [], "named": ["name"], "run": ["name", "numbers", "steps"],
    },
    "combinators": {
        "is_combination": ["value"], "abstracted": ["combination"], "combination_of": ["term"],
        "term_of": ["combination"], "value_put": ["combination", "value"],
        "combination_redexes": ["combination"], "combination_step": ["combination", "place"],
        "combination_normal": ["combination", "steps"],
    },
    "claims": {
        "is_claim": ["value"], "is_shown": ["claim"], "claim_text": ["claim"], "read_claim": ["text"],
    },
}

LIMITS = {
    "terms": {"MOST_NODES": 1000, "MOST_VARIABLE": 1000000}, "meeting": {"MOST_SHORT": 12},
    "order": {"MOST_ROAD": 200}, "looks": {"MOST_CROWD": 12}, "apart": {"MOST_ARGUMENTS": 400},
    "data": {"MOST_NUMBER": 400},
}


class Interface(unittest.TestCase):
    def test_functions_stand_in_their_files_with_their_arguments(self):
        for file, functions in INTERFACE.items():
            module = importlib.import_module(f"lydite.{file}")
            for name, arguments in functions.items():
                function = getattr(module, name)
                self.assertEqual(function.__module__, f"lydite.{file}")
                self.assertEqual(list(inspect.signature(function).parameters), arguments)

    def test_limits(self):
        for file, limits in LIMITS.items():
            module = importlib.import_module(f"lydite.{file}")
            for name, value in limits.items():
                self.assertEqual(getattr(module, name), value)


class Files(unittest.TestCase):
    def test_nothing_from_outside_the_package(self):
        # So there is no clock, no random source, no file and no network.
        barred = {"open", "input", "print", "eval", "exec", "compile", "globals", "vars", "id", "hash"}
        for path in PACKAGE.rglob("*.py"):
            for node in ast.walk(ast.parse(path.read_text())):
                self.assertNotIsInstance(node, ast.Import)
                self.assertNotIsInstance(node, ast.Global)
                if isinstance(node, ast.ImportFrom):
                    self.assertTrue(node.module.startswith("lydite."), path)
                    names = {alias.name for alias in node.names}
                    module = importlib.import_module(node.module)
                    for name in names:
                        value = getattr(module, name)
                        self.assertEqual(getattr(value, "__module__", node.module), node.module)
                if isinstance(node, ast.Name):
                    self.assertNotIn(node.id, barred)

    def test_the_package_holds_only_python_files(self):
        for path in PACKAGE.rglob("*"):
            if "__pycache__" not in path.parts:
                self.assertTrue(path.is_dir() or path.suffix == ".py", path)

    def test_sizes_and_characters(self):
        for path in PACKAGE.rglob("*.py"):
            text = path.read_bytes().decode("ascii")
            self.assertTrue(all(c == "\n" or " " <= c <= "~" for c in text), path)
            lines = text.splitlines()
            self.assertLessEqual(len(lines), 399, path)
            self.assertLessEqual(max(map(len, lines), default=0), 120, path)
            for node in ast.walk(ast.parse(text)):
                if isinstance(node, ast.FunctionDef):
                    self.assertLessEqual(node.end_lineno - node.lineno + 1, 40, node.name)


if __name__ == "__main__":
    unittest.main()
