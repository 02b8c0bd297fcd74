"""[2] and the form of the code: what its text alone tells."""

import ast
import builtins
import doctest
import inspect
import unittest
import warnings
from pathlib import Path

from tidyback import (
    benches, certificates, code, effects, errors, joining, judges, machines, planning, prices, programs, rounds, tasks)

ROOT = Path(__file__).resolve().parent.parent
FILES = sorted((ROOT / "tidyback").rglob("*.py"))
LIBRARY = {"heapq", "math", "collections"}
FUNCTIONS = {
    programs: {"read_program": "(text)", "format_program": "(program)",
               "evaluate": "(program, inputs)", "task_of": "(program)"},
    tasks: {"task": "(uses, targets)", "needed": "(task)", "is_possible": "(task, configuration, move)",
            "walk": "(task, plan, *, start=())", "look": "(task, plan)"},
    planning: {"shortest_plan": "(task, registers, *, start=(), goal=None)",
               "fewest_registers": "(task)", "tradeoff": "(task)"},
    certificates: {"certificate": "(task, registers)", "is_right": "(task, certificate)",
                   "flaw": "(task, certificate)"},
    prices: {"price_of": "(prices, plan)", "cheapest_plan": "(task, registers, prices)",
             "price_certificate": "(task, registers, prices)",
             "is_right_price": "(task, prices, certificate)"},
    rounds: {"is_round": "(task, configuration, steps, registers)", "shortest_schedule": "(task, registers)",
             "solves_in_rounds": "(task, registers, schedule)", "round_certificate": "(task, registers)",
             "is_right_rounds": "(task, certificate)"},
    code: {"check_code": "(program, code)", "run": "(program, code, inputs, registers)",
           "traced": "(program, code, inputs)", "inverted": "(code)", "flaw_of_code": "(program, code)",
           "compiled": "(program, plan)", "decompiled": "(program, code)", "cancelled": "(code)"},
    effects: {"first_difference": "(program, code, other)", "places_of": "(program, code)",
              "first_untidy": "(program, code, places)"},
    joining: {"joined": "(first, second, links, *, keep=False)",
              "joined_plan": "(first, second, links, plan, other, *, keep=False)"},
    judges: {"flaw_of_plan": "(task, registers, plan)", "flaw_of_schedule": "(task, registers, schedule)",
             "answer": "(program, question)", "judge": "(program, claim)", "judge_all": "(program, claims)"},
}
METHODS = {
    machines.Machine: {
        "__init__": "(self, program, code, inputs)", "forward": "(self)", "backward": "(self)",
        "move_to": "(self, position)", "states": "(self)", "__len__": "(self)", "__iter__": "(self)",
        "__getitem__": "(self, at)", "__eq__": "(self, other)"},
    benches.Bench: {
        "__init__": "(self, task, registers)", "toggle": "(self, step)", "add_step": "(self, uses)",
        "set_targets": "(self, targets)", "set_registers": "(self, registers)", "way": "(self)",
        "remaining": "(self)", "hint": "(self)", "undo": "(self)", "replay": "(self, entries)", "branch": "(self)",
        "__len__": "(self)", "__contains__": "(self, x)", "__iter__": "(self)", "__eq__": "(self, other)"},
}
PROPERTIES = {
    machines.Machine: ("position", "registers"),
    benches.Bench: ("task", "registers", "configuration", "log"),
}
BUILTINS = set(
    "len range enumerate zip min max sum abs sorted reversed int str bool list tuple dict set isinstance "
    "ord repr any all divmod map iter next super ValueError TypeError KeyError IndexError LookupError "
    "NotImplemented property staticmethod classmethod".split())

# Python shows its last answer as `_`, which is no builtin of its own.
NAMES = set(dir(builtins)) - {"_"}
BARRED = set(
    "register mro elements open input law version_info with_traceback add_note attrgetter breakpoint builtins "
    "compile copyright credits delattr dir eval exec exit gc globals help id importlib license locals "
    "methodcaller os quit vars sys".split())
BARRED_ATTRIBUTES = BARRED | set(
    "items keys values pop update append clear extend insert remove reverse setdefault sort args format".split())


def trees():
    """Return the pairs of each file of the package and its syntax tree."""
    return [(path, ast.parse(path.read_text("utf-8"))) for path in FILES]


class FormTest(unittest.TestCase):
    def test_only_the_package_and_the_plain_library_are_imported(self):
        for path, tree in trees():
            for node in ast.walk(tree):
                self.assertNotIsInstance(node, ast.Import, path)
                if isinstance(node, ast.ImportFrom):
                    self.assertEqual(node.level, 0, path)
                    top = node.module.split(".")[0]
                    self.assertTrue(top == "tidyback" or top in LIBRARY, (path, node.module))

    def test_no_other_builtin_is_read(self):
        """So no file, network, clock or random source can be reached."""
        for path, tree in trees():
            for node in ast.walk(tree):
                if isinstance(node, ast.Name) and node.id in NAMES:
                    self.assertIn(node.id, BUILTINS, path)

    def test_names_mean_nothing_else(self):
        """No function, class, parameter or variable has the name of a builtin, or one that is barred."""
        names = NAMES | BARRED
        for path, tree in trees():
            for node in ast.walk(tree):
                if isinstance(node, (ast.ClassDef, ast.FunctionDef, ast.arg)):
                    name = node.arg if isinstance(node, ast.arg) else node.name
                    self.assertNotIn(name, names, path)
                if isinstance(node, ast.Name) and isinstance(node.ctx, ast.Store):
                    self.assertNotIn(node.id, names, path)
                if isinstance(node, ast.Attribute) and isinstance(node.ctx, ast.Store):
                    self.assertNotIn(node.attr, BARRED_ATTRIBUTES, path)

    def test_no_parameter_or_variable_has_the_name_of_a_class_or_an_import(self):
        for path, tree in trees():
            taken = {node.name for node in tree.body if isinstance(node, ast.ClassDef)}
            for node in tree.body:
                if isinstance(node, ast.ImportFrom):
                    taken |= {each.name for each in node.names}
            for node in ast.walk(tree):
                if isinstance(node, ast.arg):
                    self.assertNotIn(node.arg, taken, path)
                if isinstance(node, ast.Name) and isinstance(node.ctx, ast.Store):
                    self.assertNotIn(node.id, taken, path)

    def test_files_import_names_from_the_file_that_defines_them(self):
        found = dict(trees())
        for path, tree in found.items():
            for node in ast.walk(tree):
                if isinstance(node, ast.ImportFrom) and node.module.startswith("tidyback"):
                    source = found[ROOT / (node.module.replace(".", "/") + ".py")]
                    bound = {each.name for each in source.body if hasattr(each, "name")}
                    bound |= {target.id for each in source.body if isinstance(each, ast.Assign)
                              for target in each.targets}
                    for each in node.names:
                        self.assertIn(each.name, bound, path)

    def test_what_is_left_out_of_the_language(self):
        for path, tree in trees():
            for node in ast.walk(tree):
                self.assertNotIsInstance(node, (
                    ast.GeneratorExp, ast.Lambda, ast.Global, ast.Nonlocal, ast.AsyncFunctionDef, ast.Await,
                    ast.Yield, ast.YieldFrom, ast.NamedExpr, ast.AnnAssign, ast.With, ast.Match), path)
                if isinstance(node, ast.Constant):
                    self.assertNotIsInstance(node.value, (float, bytes), path)
                if isinstance(node, ast.BinOp):
                    self.assertNotIsInstance(node.op, (ast.Div, ast.Pow), path)

    def test_nothing_at_module_level_can_be_modified(self):
        for path, tree in trees():
            for node in tree.body:
                if isinstance(node, ast.Assign):
                    self.assertIsInstance(node.value, (ast.Constant, ast.Tuple), path)

    def test_the_package_holds_files_of_code_alone(self):
        found = [path for path in (ROOT / "tidyback").rglob("*") if "__pycache__" not in path.parts]
        self.assertEqual(sorted(found), FILES)
        self.assertIn(ROOT / "tidyback" / "__init__.py", FILES)

    def test_sizes_and_characters(self):
        for path, tree in trees():
            text = path.read_text("utf-8")
            lines = text.split("\n")
            self.assertLessEqual(len(lines), 399, path)
            self.assertLessEqual(max(len(line) for line in lines), 120, path)
            self.assertTrue(all(sign == "\n" or " " <= sign <= "~" for sign in text), path)
            for node in ast.walk(tree):
                if isinstance(node, ast.FunctionDef):
                    self.assertLessEqual(node.end_lineno - node.lineno + 1, 40, (path, node.name))

    def test_the_code_gives_no_warnings(self):
        with warnings.catch_warnings():
            warnings.simplefilter("error")
            for path in FILES:
                compile(path.read_text("utf-8"), str(path), "exec")

    def test_the_functions_of_the_interface(self):
        for module, wanted in FUNCTIONS.items():
            for name, parameters in wanted.items():
                function = getattr(module, name)
                self.assertTrue(inspect.isfunction(function), name)
                self.assertEqual(function.__module__, module.__name__)
                self.assertEqual(str(inspect.signature(function)), parameters, name)

    def test_the_methods_of_the_interface(self):
        """Each one is defined in the class itself."""
        for made, wanted in METHODS.items():
            for name, parameters in wanted.items():
                self.assertIn(name, vars(made))
                self.assertEqual(str(inspect.signature(vars(made)[name])), parameters, name)
        for made, names in PROPERTIES.items():
            for name in names:
                self.assertIsInstance(vars(made)[name], property)
                self.assertIsNone(vars(made)[name].fset)
        self.assertEqual(machines.Machine.__module__, "tidyback.machines")
        self.assertEqual(benches.Bench.__module__, "tidyback.benches")

    def test_errors_that_are_caught_are_those_of_the_program(self):
        for path, tree in trees():
            for node in ast.walk(tree):
                if isinstance(node, ast.Try):
                    self.assertEqual(node.finalbody, [], path)
                    for handler in node.handlers:
                        self.assertIn(handler.type.id, vars(errors), path)

    def test_the_examples_of_the_readme(self):
        failed, tried = doctest.testfile(str(ROOT / "README.md"), module_relative=False)
        self.assertEqual(failed, 0)
        self.assertGreater(tried, 0)


if __name__ == "__main__":
    unittest.main()
