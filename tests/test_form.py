"""[2] and the form of the code: what its text alone tells."""

import ast
import builtins
import doctest
import inspect
import unittest
import warnings
from pathlib import Path

from tidyback import certificates, planning, prices, programs, tasks

ROOT = Path(__file__).resolve().parent.parent
FILES = sorted((ROOT / "tidyback").rglob("*.py"))
LIBRARY = {"heapq", "math", "itertools", "collections", "__future__"}
FUNCTIONS = {
    programs: {"read_program": "(text)", "format_program": "(program)",
               "evaluate": "(program, inputs)", "task_of": "(program)"},
    tasks: {"task": "(uses, targets)", "needed": "(task)", "is_possible": "(task, configuration, move)",
            "walk": "(task, plan, *, start=())", "look": "(task, plan)"},
    planning: {"shortest_plan": "(task, registers, *, start=(), goal=None)",
               "fewest_registers": "(task)", "tradeoff": "(task)"},
    certificates: {"certificate": "(task, registers)", "is_right": "(task, certificate)",
                   "flaw": "(task, certificate)"},
    prices: {"price_of": "(prices, plan)", "cheapest_plan": "(task, registers, prices)",
             "price_certificate": "(task, registers, prices)",
             "is_right_price": "(task, prices, certificate)"},
}
BUILTINS = set(
    "len range enumerate zip min max sum abs sorted reversed int str bool list tuple dict set isinstance "
    "ord repr any all divmod map iter next super ValueError TypeError KeyError IndexError LookupError "
    "NotImplemented property staticmethod classmethod".split())


def trees():
    """Return the pairs of each file of the package and its syntax tree."""
    return [(path, ast.parse(path.read_text("utf-8"))) for path in FILES]


class FormTest(unittest.TestCase):
    def test_only_the_package_and_the_plain_library_are_imported(self):
        for path, tree in trees():
            for node in ast.walk(tree):
                self.assertNotIsInstance(node, ast.Import, path)
                if isinstance(node, ast.ImportFrom):
                    self.assertEqual(node.level, 0, path)
                    top = node.module.split(".")[0]
                    self.assertTrue(top == "tidyback" or top in LIBRARY, (path, node.module))

    def test_no_other_builtin_is_read(self):
        """So no file, network, clock or random source can be reached."""
        names = set(dir(builtins))
        for path, tree in trees():
            for node in ast.walk(tree):
                if isinstance(node, ast.Name) and node.id in names:
                    self.assertIn(node.id, BUILTINS, path)

    def test_nothing_at_module_level_can_be_modified(self):
        for path, tree in trees():
            for node in tree.body:
                if isinstance(node, ast.Assign):
                    self.assertIsInstance(node.value, (ast.Constant, ast.Tuple), path)

    def test_the_package_holds_files_of_code_alone(self):
        found = [path for path in (ROOT / "tidyback").rglob("*") if "__pycache__" not in path.parts]
        self.assertEqual(sorted(found), FILES)
        self.assertIn(ROOT / "tidyback" / "__init__.py", FILES)

    def test_sizes_and_characters(self):
        for path, tree in trees():
            text = path.read_text("utf-8")
            lines = text.split("\n")
            self.assertLessEqual(len(lines), 399, path)
            self.assertLessEqual(max(len(line) for line in lines), 120, path)
            self.assertTrue(all(sign == "\n" or " " <= sign <= "~" for sign in text), path)
            for node in ast.walk(tree):
                if isinstance(node, ast.FunctionDef):
                    self.assertLessEqual(node.end_lineno - node.lineno + 1, 40, (path, node.name))

    def test_the_code_gives_no_warnings(self):
        with warnings.catch_warnings():
            warnings.simplefilter("error")
            for path in FILES:
                compile(path.read_text("utf-8"), str(path), "exec")

    def test_the_functions_of_the_interface(self):
        for module, wanted in FUNCTIONS.items():
            for name, parameters in wanted.items():
                function = getattr(module, name)
                self.assertTrue(inspect.isfunction(function), name)
                self.assertEqual(function.__module__, module.__name__)
                self.assertEqual(str(inspect.signature(function)), parameters, name)

    def test_the_examples_of_the_readme(self):
        failed, tried = doctest.testfile(str(ROOT / "README.md"), module_relative=False)
        self.assertEqual(failed, 0)
        self.assertGreater(tried, 0)


if __name__ == "__main__":
    unittest.main()
