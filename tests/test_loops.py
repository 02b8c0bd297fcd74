"""The form of loops: nothing that a loop or a comprehension goes over is changed in it."""

import ast
import unittest
from pathlib import Path

FILES = sorted((Path(__file__).resolve().parent.parent / "tidyback").rglob("*.py"))
LOOKS = {"enumerate", "zip", "reversed"}
VIEWS = {"items", "keys", "values"}
CHANGES = {
    "append", "clear", "extend", "insert", "pop", "remove", "reverse", "setdefault", "update", "sort",
    "add", "discard", "appendleft", "popleft", "extendleft", "rotate"}
HEAPS = {"heappush", "heappop", "heapify", "heapreplace", "heappushpop"}
COMPREHENSIONS = (ast.ListComp, ast.SetComp, ast.DictComp, ast.GeneratorExp)


def named(node):
    """Return the names, fields and items that a value may be; a call or a literal makes a new one."""
    if isinstance(node, (ast.Name, ast.Attribute)):
        return [ast.unparse(node)]
    if isinstance(node, ast.Subscript) and not isinstance(node.slice, ast.Slice):
        return [ast.unparse(node)]
    if isinstance(node, ast.IfExp):
        return named(node.body) + named(node.orelse)
    if isinstance(node, ast.BoolOp):
        return [name for each in node.values for name in named(each)]
    return []


def walked(node):
    """Return what a loop over this value goes over."""
    if isinstance(node, ast.Call) and isinstance(node.func, ast.Name) and node.func.id in LOOKS:
        return [name for each in node.args for name in walked(each)]
    if isinstance(node, ast.Call) and isinstance(node.func, ast.Attribute) and node.func.attr in VIEWS:
        return walked(node.func.value)
    return named(node)


def changed(node):
    """Return what a statement or an expression changes itself, without its parts."""
    if isinstance(node, ast.Call) and isinstance(node.func, ast.Attribute) and node.func.attr in CHANGES:
        return named(node.func.value)
    if isinstance(node, ast.Call) and isinstance(node.func, ast.Name) and node.func.id in HEAPS:
        return named(node.args[0])
    if isinstance(node, ast.Subscript) and not isinstance(node.ctx, ast.Load):
        return named(node.value)
    if isinstance(node, ast.AugAssign):
        return named(node.target)
    return []


def parts_of_assignment(target, value):
    """Return the pairs of single targets and what they are assigned."""
    if isinstance(target, ast.Tuple) and isinstance(value, ast.Tuple) and len(target.elts) == len(value.elts):
        return [part for pair in zip(target.elts, value.elts) for part in parts_of_assignment(*pair)]
    return [(target, value)]


def same_lists(function):
    """Return a dict that has, for each name that is assigned another one, all names that count as one with it."""
    groups = {}
    for node in ast.walk(function):
        if isinstance(node, ast.Assign):
            pairs = [part for target in node.targets for part in parts_of_assignment(target, node.value)]
            for target, value in pairs:
                for one in named(target):
                    for other in named(value):
                        group = groups.get(one, {one}) | groups.get(other, {other})
                        groups.update(dict.fromkeys(group, group))
    return groups


def loops(function):
    """Return the pairs of what is gone through and the nodes that run meanwhile."""
    found = []
    for node in ast.walk(function):
        if isinstance(node, ast.For):
            found.append((node.iter, [part for row in node.body for part in ast.walk(row)]))
        if isinstance(node, COMPREHENSIONS):
            found += [(each.iter, list(ast.walk(node))) for each in node.generators]
    return found


def faults(text):
    """Return the rows of a file in which something is changed that a loop around them goes over."""
    rows = set()
    for function in ast.walk(ast.parse(text)):
        if isinstance(function, ast.FunctionDef):
            groups = same_lists(function)
            for gone, nodes in loops(function):
                kept = {name for each in walked(gone) for name in groups.get(each, {each})}
                rows |= {node.lineno for node in nodes if kept & set(changed(node))}
    return sorted(rows)


def inside(*rows):
    """Return the text of a function with these rows."""
    return "\n".join(["def f(self, xs, ys, k):", *["    " + row for row in rows], ""])


class LoopsTest(unittest.TestCase):
    def test_no_loop_of_the_package_changes_what_it_goes_over(self):
        for path in FILES:
            self.assertEqual(faults(path.read_text("utf-8")), [], path)

    def test_a_list_that_is_changed_by_its_name(self):
        self.assertEqual(faults(inside("for x in xs:", "    xs.append(x)")), [3])
        self.assertEqual(faults(inside("for at, x in enumerate(xs):", "    xs[at] = x")), [3])
        self.assertEqual(faults(inside("for x, y in zip(ys, reversed(xs)):", "    del xs[0]")), [3])
        self.assertEqual(faults(inside("for a, b in xs.items():", "    xs.pop(a)", "    return b")), [3])
        self.assertEqual(faults(inside("for x in xs:", "    while k:", "        xs += [x]")), [4])
        self.assertEqual(faults(inside("for x in xs:", "    heappush(xs, x)")), [3])
        self.assertEqual(faults(inside("return [xs.pop() for x in xs]")), [2])

    def test_a_list_that_is_changed_by_a_field_an_item_or_a_choice(self):
        self.assertEqual(faults(inside("for x in self.rows:", "    self.rows.append(x)")), [3])
        self.assertEqual(faults(inside("for x in xs[k]:", "    xs[k].append(x)")), [3])
        self.assertEqual(faults(inside("for x in (xs if k else ys):", "    ys.append(x)")), [3])
        self.assertEqual(faults(inside("rows = xs or ys", "for x in rows:", "    ys.append(x)")), [4])

    def test_a_list_that_is_changed_by_another_name(self):
        rows = ("while xs:", "    ys = []", "    for x in xs:", "        ys.append(x)", "    xs = ys")
        self.assertEqual(faults(inside(*rows)), [5])
        rows = ("for x in xs:", "    c.append(x)", "a, b = xs, k", "c = d = a")
        self.assertEqual(faults(inside(*rows)), [3])

    def test_what_is_copied_or_something_else_may_be_changed(self):
        rows = ("while xs:", "    ys = []", "    for x in list(xs):", "        ys.append(x)", "    xs = ys")
        self.assertEqual(faults(inside(*rows)), [])
        rows = ("while xs:", "    ys = []", "    for x in xs:", "        ys.append(x)", "    xs = list(ys)")
        self.assertEqual(faults(inside(*rows)), [])
        self.assertEqual(faults(inside("for x in xs[1:]:", "    xs.append(x)")), [])
        self.assertEqual(faults(inside("for x in xs:", "    ys.append(x)", "xs.append(k)")), [])


if __name__ == "__main__":
    unittest.main()
