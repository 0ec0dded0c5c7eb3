"""The interface's names and arguments, and the rules of form that are simple to check."""

import ast
import builtins
import importlib
import inspect
import pathlib
import unittest

from surepast import errors
from surepast.watcher import Watcher

PACKAGE = pathlib.Path(__file__).resolve().parent.parent / "surepast"

INTERFACE = {
    "errors": {
        "PastError": None,
        "BadValue": ["name"],
        "TooLarge": ["what"],
        "NotPossible": ["why"],
        "TextError": ["column", "words"],
    },
    "models": {
        "is_model": ["value"],
        "is_signs": ["value", "model"],
        "cost_of": ["model", "signs", "row"],
        "steps": ["model", "signs", "row"],
        "is_better": ["model", "signs", "row", "other"],
    },
    "made": {
        "raised": ["model", "part", "number"],
        "renamed": ["model", "order"],
        "without": ["model", "state"],
    },
    "best": {
        "best_row": ["model", "signs"],
        "ending_row": ["model", "signs", "state"],
        "told_floors": ["model", "signs"],
        "accepts_best": ["model", "signs", "row", "value"],
    },
    "futures": {
        "profile": ["model", "signs"],
        "with_ahead": ["model", "sign", "numbers"],
        "profiles": ["model"],
        "first_signs": ["model"],
        "is_closed": ["model", "value"],
        "spread": ["model"],
    },
    "sure": {
        "decided_by": ["model", "signs", "table"],
        "sure_states": ["model", "signs"],
        "survivors": ["model", "signs"],
        "accepts_sure": ["model", "signs", "many", "value"],
    },
    "waiting": {
        "open_time": ["model", "signs"],
        "told_signs": ["model", "signs"],
        "accepts_open": ["model", "signs", "time", "value"],
    },
    "delays": {
        "delay": ["model"],
        "undecided": ["model", "number"],
        "delay_evidence": ["model"],
        "accepts_delay": ["model", "value"],
    },
    "conditions": {
        "condition": ["model", "signs"],
        "origins": ["model", "condition", "sign"],
        "with_sign": ["model", "condition", "sign"],
        "can_win": ["model", "condition"],
        "all_conditions": ["model"],
        "is_closed_set": ["model", "value"],
    },
    "counting": {
        "count_open": ["model", "length"],
        "nth_open": ["model", "length", "number", "index"],
        "index_open": ["model", "signs"],
        "worst_signs": ["model", "length"],
    },
    "near": {
        "count_near": ["model", "signs", "margin"],
        "nth_near": ["model", "signs", "margin", "index"],
        "index_of_near": ["model", "signs", "margin", "row"],
        "second_best": ["model", "signs"],
    },
    "met": {
        "met": ["model", "signs", "margin"],
        "agreed": ["model", "signs", "margin"],
        "met_evidence": ["model", "signs", "margin", "time", "state"],
        "accepts_met": ["model", "signs", "margin", "time", "state", "value"],
    },
    "changing": {
        "is_place": ["value", "model"],
        "uses": ["model", "signs", "place", "row"],
        "changed_cost": ["model", "signs", "place", "by", "row"],
        "best_with": ["model", "signs", "place", "many"],
        "best_changed": ["model", "signs", "place", "by"],
        "room": ["model", "signs", "place"],
        "overtakes": ["model", "signs", "place", "by", "value"],
    },
    "scanning": {
        "scan": ["text"],
    },
    "reading": {
        "next_tokens": ["text", "kind"],
        "read_model": ["text"],
        "read_signs": ["model", "text"],
        "read_row": ["model", "text"],
    },
    "writing": {
        "model_text": ["model"],
        "signs_text": ["model", "signs"],
        "row_text": ["model", "row"],
    },
    "watcher": {
        "Watcher": ["model"],
    },
    "journals": {
        "replayed": ["model", "journal"],
        "are_right": ["model", "records"],
    },
}
CLASSES = {"PastError", "BadValue", "TooLarge", "NotPossible", "TextError", "Watcher"}
# The methods of Watcher.
METHODS = {
    "act": ["command"], "undo": [], "signs": [], "journal": [], "best": [], "sure": [], "first_sights": [], "records": [],
    "twin": [],
}
ALLOWED_SOURCES = {"surepast", "heapq", "math", "itertools", "collections"}
ALLOWED_BUILTINS = set("""
    len range enumerate zip min max sum abs sorted reversed int str bool list tuple dict set isinstance ord repr any all
    divmod iter next ValueError KeyError IndexError LookupError NotImplemented
""".split())


def files():
    return sorted(path for path in PACKAGE.rglob("*") if path.is_file() and "__pycache__" not in path.parts)


def trees():
    return [(path, ast.parse(path.read_text(encoding="ascii"))) for path in files()]


class Interface(unittest.TestCase):
    def test_names_and_arguments(self):
        for file, listed in INTERFACE.items():
            module = importlib.import_module(f"surepast.{file}")
            for name, parameters in listed.items():
                its = getattr(module, name)
                self.assertTrue(inspect.isclass(its) if name in CLASSES else inspect.isfunction(its))
                self.assertEqual(its.__module__, f"surepast.{file}")
                if parameters is not None:
                    self.assertEqual(list(inspect.signature(its).parameters), parameters)

    def test_methods(self):
        # Each is defined in the class itself.
        for name, parameters in METHODS.items():
            its = vars(Watcher)[name]
            self.assertTrue(inspect.isfunction(its))
            self.assertEqual(list(inspect.signature(its).parameters), ["self"] + parameters)

    def test_all_are_defined_in_their_files(self):
        for file, listed in INTERFACE.items():
            tree = ast.parse((PACKAGE / f"{file}.py").read_text(encoding="ascii"))
            defined = [node.name for node in tree.body if isinstance(node, (ast.FunctionDef, ast.ClassDef))]
            self.assertTrue(set(listed) <= set(defined), file)

    def test_no_class_of_errors_is_below_another_one(self):
        below = [errors.BadValue, errors.TooLarge, errors.NotPossible, errors.TextError]
        for error in below:
            self.assertEqual(error.__bases__, (errors.PastError,))
        self.assertEqual(errors.PastError.__bases__, (ValueError,))

    def test_no_other_errors_are_defined_or_raised(self):
        for path, tree in trees():
            for node in ast.walk(tree):
                if isinstance(node, ast.ClassDef) and path.name != "errors.py":
                    self.assertEqual(node.bases, [], (path, node.lineno))
                if isinstance(node, ast.Raise):
                    self.assertIn(node.exc.func.id, CLASSES - {"PastError", "Watcher"}, (path, node.lineno))
                self.assertNotIsInstance(node, (ast.Try, ast.Assert), path)


class Form(unittest.TestCase):
    def test_the_package_holds_python_files_alone(self):
        self.assertTrue((PACKAGE / "__init__.py").is_file())
        for path in files():
            self.assertEqual(path.suffix, ".py", path)

    def test_sizes_and_characters(self):
        for path in files():
            text = path.read_text(encoding="ascii")
            self.assertLessEqual(len(text.splitlines()), 399, path)
            self.assertLessEqual(max(map(len, text.splitlines())), 120, path)
            self.assertTrue(all(letter == "\n" or " " <= letter <= "~" for letter in text), path)

    def test_functions_are_short(self):
        for path, tree in trees():
            for node in ast.walk(tree):
                if isinstance(node, ast.FunctionDef):
                    self.assertLessEqual(node.end_lineno - node.lineno + 1, 40, (path, node.name))

    def test_no_clock_no_random_source_and_no_files_are_imported(self):
        for path, tree in trees():
            for node in ast.walk(tree):
                self.assertNotIsInstance(node, ast.Import, path)
                if isinstance(node, ast.ImportFrom):
                    self.assertEqual(node.level, 0, path)
                    self.assertIn(node.module.split(".")[0], ALLOWED_SOURCES, (path, node.lineno))

    def test_no_builtin_that_is_not_allowed(self):
        # Whoever runs examples leaves a last value among the builtins, called `_`.
        known = set(dir(builtins)) - {"_"}
        for path, tree in trees():
            for node in ast.walk(tree):
                if isinstance(node, ast.Name) and node.id in known:
                    self.assertIn(node.id, ALLOWED_BUILTINS, (path, node.lineno))

    def test_no_builtin_is_given_another_meaning(self):
        barred = set(dir(builtins)) - {"_"} | {"elements", "law", "mro", "register"}
        for path, tree in trees():
            for node in ast.walk(tree):
                names = [getattr(node, "arg", None), getattr(node, "attr", None)]
                if isinstance(node, (ast.FunctionDef, ast.ClassDef)):
                    names.append(node.name)
                if isinstance(node, ast.Name) and isinstance(node.ctx, ast.Store):
                    names.append(node.id)
                self.assertFalse(barred & set(names), (path, getattr(node, "lineno", None)))

    def test_no_import_and_no_class_is_given_another_meaning(self):
        for path, tree in trees():
            known = {node.name for node in tree.body if isinstance(node, ast.ClassDef)}
            for node in tree.body:
                if isinstance(node, ast.ImportFrom):
                    known |= {alias.name for alias in node.names}
            for node in ast.walk(tree):
                if isinstance(node, ast.arg):
                    self.assertNotIn(node.arg, known, (path, node.lineno))
                if isinstance(node, ast.Name) and isinstance(node.ctx, ast.Store):
                    self.assertNotIn(node.id, known, (path, node.lineno))

    def test_no_name_is_a_method_and_an_attribute_of_a_class(self):
        for path, tree in trees():
            for its in [node for node in tree.body if isinstance(node, ast.ClassDef)]:
                methods = {node.name for node in its.body if isinstance(node, ast.FunctionDef)}
                for node in ast.walk(its):
                    if isinstance(node, ast.Attribute) and isinstance(node.ctx, ast.Store):
                        self.assertNotIn(node.attr, methods, (path, node.lineno))

    def test_a_range_is_not_stored_in_an_object(self):
        for path, tree in trees():
            for node in ast.walk(tree):
                if isinstance(node, ast.Assign) and isinstance(node.value, ast.Call):
                    kept = any(isinstance(target, ast.Attribute) for target in node.targets)
                    called = getattr(node.value.func, "id", None)
                    self.assertFalse(kept and called in {"range", "zip", "reversed", "enumerate"}, (path, node.lineno))


if __name__ == "__main__":
    unittest.main()
