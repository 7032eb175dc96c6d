"""The interface as it is written, and those rules on the package's files that can be looked up in them."""

import ast
import doctest
import importlib
import inspect
import pathlib
import unittest
import warnings

from choicerows.books import Book

TOP = pathlib.Path(__file__).resolve().parent.parent
README = TOP / "README.md"
PACKAGE = TOP / "choicerows"
FILES = sorted(PACKAGE.rglob("*.py"))
LIBRARY = {"heapq", "math", "itertools", "collections"}
FUNCTIONS = {
    "choicerows.conditions": {
        "is_of_kind": ["value", "kind"], "fits": ["condition", "kind"], "holds": ["condition", "value"],
    },
    "choicerows.generators": {
        "kind_of": ["generator"], "kind_behind": ["some_map", "kind"], "turn": ["some_map", "value"],
        "merged": ["generator"], "is_plain": ["generator"],
    },
    "choicerows.gentext": {
        "format_generator": ["generator"], "format_condition": ["condition"], "read_generator": ["text"],
        "read_condition": ["text"],
    },
    "choicerows.drawing": {
        "draw": ["generator", "row"], "is_exact": ["generator", "row"], "value_of": ["generator", "row"],
    },
    "choicerows.tables": {
        "table": ["generator"], "values_of": ["generator"], "least_row": ["generator", "value"],
        "count_rows": ["generator"], "chance": ["generator", "value"], "refused_chance": ["generator"],
        "first_rows": ["generator", "many"], "draw_equally": ["generator", "other"],
        "make_equally": ["generator", "other"],
    },
    "choicerows.rows": {
        "is_less": ["row", "other"], "sorted_rows": ["rows"], "is_prefix_free": ["rows"],
    },
    "choicerows.trials": {
        "is_test": ["generator", "condition"], "says": ["test", "row"], "told_longer": ["test", "row"],
        "least_failing": ["test"], "failures": ["test"], "failing_chance": ["test"],
    },
    "choicerows.ledgers": {
        "parts_of": ["generator"], "ledger": ["generator"], "is_right_ledger": ["generator", "some_ledger"],
    },
    "choicerows.shrinking": {
        "candidates": ["row"], "left_by": ["generator", "row"], "step": ["test", "row"], "is_settled": ["test", "row"],
        "course": ["test", "row"], "waste": ["test"],
    },
    "choicerows.machines": {
        "machine": ["first", "commands", "most"], "run_machine": ["some_machine", "row"],
        "does_fail": ["some_machine", "invariant", "row"], "least_run": ["some_machine", "invariant"],
        "reachable": ["some_machine"],
    },
    "choicerows.books": {
        "replayed": ["log"],
    },
    "choicerows.courts": {
        "about_test": ["test"], "about_row": ["test", "row"], "about_machine": ["some_machine", "invariant"],
        "judge": ["claim"], "judge_all": ["claims"],
    },
}
METHODS = {
    "put": ["name", "generator", "condition"], "note": ["name", "row"], "forget": ["name"], "shrink": ["name"],
    "undo": [], "test_of": ["name"], "rows_of": ["name"], "state": ["name"], "best": ["name"], "branch": [],
}


class Interface(unittest.TestCase):
    def test_functions_are_defined_in_their_files_with_their_arguments(self):
        for module_name, functions in FUNCTIONS.items():
            module = importlib.import_module(module_name)
            for name, arguments in functions.items():
                function = getattr(module, name)
                self.assertEqual(function.__module__, module_name)
                self.assertEqual(list(inspect.signature(function).parameters), arguments)


    def test_methods_are_defined_in_the_class_itself(self):
        self.assertEqual(Book.__module__, "choicerows.books")
        self.assertEqual(list(inspect.signature(Book).parameters), [])
        for name, arguments in METHODS.items():
            self.assertEqual(list(inspect.signature(Book.__dict__[name]).parameters), ["self"] + arguments)
        for name in ("__len__", "__contains__", "__eq__"):
            self.assertIn(name, Book.__dict__)
        for name in ("names", "log"):
            self.assertIsInstance(Book.__dict__[name], property)


class Readme(unittest.TestCase):
    def test_its_examples(self):
        # The fence behind an example would count as what is expected of it.
        text = README.read_text().replace("```", "")
        examples = doctest.DocTestParser().get_doctest(text, {}, "README.md", str(README), 0)
        found = doctest.DocTestRunner().run(examples)
        self.assertGreater(found.attempted, 20)
        self.assertEqual(found.failed, 0)


class Files(unittest.TestCase):
    def test_the_folder_holds_only_python_files(self):
        for path in PACKAGE.rglob("*"):
            if path.name != "__pycache__" and path.parent.name != "__pycache__":
                self.assertTrue(path.is_dir() or path.suffix == ".py", path)
        self.assertIn(PACKAGE / "__init__.py", FILES)

    def test_no_clock_no_random_numbers_and_no_files(self):
        for path in FILES:
            for node in ast.walk(ast.parse(path.read_text())):
                self.assertNotIsInstance(node, ast.Import, path)
                if isinstance(node, ast.ImportFrom):
                    self.assertEqual(node.level, 0, path)
                    self.assertIn(node.module.split(".")[0], LIBRARY | {"choicerows"}, path)
                if isinstance(node, ast.Name):
                    self.assertNotIn(node.id, ("open", "input", "print", "eval", "exec", "compile"), path)

    def test_sizes_and_characters(self):
        for path in FILES:
            text = path.read_text()
            self.assertLessEqual(len(text.splitlines()), 399, path)
            self.assertLessEqual(max(map(len, text.splitlines())), 120, path)
            self.assertTrue(all(" " <= sign <= "~" or sign == "\n" for sign in text), path)
            for node in ast.walk(ast.parse(text)):
                if isinstance(node, ast.FunctionDef):
                    self.assertLessEqual(node.end_lineno - node.lineno + 1, 40, (path, node.name))

    def test_python_gives_no_warning(self):
        with warnings.catch_warnings():
            warnings.simplefilter("error")
            for path in FILES:
                compile(path.read_text(), str(path), "exec")


if __name__ == "__main__":
    unittest.main()
