"""What operators and properties run, followed by names: L5 (Operators, Properties) and L28 of the language."""

import ast
import builtins
import unittest

from tests.test_language import METHODS, TREES, nodes_of

FREE = ("__init__", "__call__", "__enter__", "__exit__", "__setitem__")
CHANGING = set("add append clear discard extend insert pop remove reverse setdefault sort update".split())
OWN = (ast.List, ast.Dict, ast.ListComp)


def is_property(node):
    return any(isinstance(word, ast.Name) and word.id == "property" for word in node.decorator_list)


def is_setter(node):
    return any(isinstance(word, ast.Attribute) and word.attr == "setter" for word in node.decorator_list)


def is_own_value(value):
    """Whether a value is plainly a list or dict that is made there."""
    if isinstance(value, ast.Call) and isinstance(value.func, ast.Name):
        return value.func.id in ("list", "dict", "sorted")
    return isinstance(value, OWN)


def own_names(node):
    """The local names that are assigned nothing but what is plainly made there."""
    told = {}
    for row in nodes_of(node, ast.Assign):
        for target in row.targets:
            for part in nodes_of(target, ast.Name):
                if isinstance(part.ctx, ast.Store):
                    told.setdefault(part.id, []).append(part is target and is_own_value(row.value))
    return {name for name, values in told.items() if all(values)}


def changes_in(node):
    """The rows in which a function changes what it did not make itself."""
    own = own_names(node)
    told = []
    for part in ast.walk(node):
        if isinstance(part, (ast.Attribute, ast.Subscript)) and not isinstance(part.ctx, ast.Load):
            base = part.value.id if isinstance(part.value, ast.Name) else None
            fresh = isinstance(part, ast.Attribute) and node.name == "__init__" and base == "self"
            if not fresh and not (isinstance(part, ast.Subscript) and base in own):
                told.append(part.lineno)
        elif isinstance(part, ast.AugAssign) and not isinstance(part.value, ast.Constant):
            told.append(part.lineno)
        elif isinstance(part, ast.Call) and isinstance(part.func, ast.Attribute) and part.func.attr in CHANGING:
            if not isinstance(part.func.value, ast.Name) or part.func.value.id not in own:
                told.append(part.lineno)
    return told


class Program:
    """The functions, classes, methods and properties of some files, all known by their names alone."""

    def __init__(self, trees):
        self.functions, self.classes, self.methods, self.properties = {}, {}, {}, {}
        for tree in trees:
            for node in tree.body:
                if isinstance(node, ast.FunctionDef):
                    self.functions.setdefault(node.name, []).append(node)
                elif isinstance(node, ast.ClassDef):
                    self.classes[node.name] = node
                    self.add_methods(node)

    def add_methods(self, shape):
        for node in shape.body:
            if isinstance(node, ast.FunctionDef) and not is_setter(node):
                table = self.properties if is_property(node) else self.methods
                table.setdefault(node.name, []).append(node)

    def roots(self):
        """All operators, the other methods with two underscores that change nothing, and all properties."""
        operators = [name for name in self.methods if name.startswith("__") and name not in FREE]
        return [
            node for table, names in ((self.methods, operators), (self.properties, list(self.properties)))
            for name in names for node in table[name]
        ]

    def called(self, node):
        """The functions and methods that a function may run, and the rows in which it calls what it is handed or holds."""
        told, rows = [], []
        for part in ast.walk(node):
            if isinstance(part, ast.Attribute) and isinstance(part.ctx, ast.Load):
                told += self.methods.get(part.attr, []) + self.properties.get(part.attr, [])
            if isinstance(part, ast.Call) and isinstance(part.func, ast.Name):
                name = part.func.id
                if name in self.classes:
                    told += [row for row in self.classes[name].body if getattr(row, "name", None) == "__init__"]
                elif name in self.functions:
                    told += self.functions[name]
                elif not hasattr(builtins, name):
                    rows.append(part.lineno)
            elif isinstance(part, ast.Call):
                if not isinstance(part.func, ast.Attribute) or part.func.attr not in (*self.methods, *METHODS):
                    rows.append(part.lineno)
        return told, rows

    def faults(self):
        """For each operator and property that is at fault, what it runs and the rows of it that change or call."""
        told = {}
        for root in self.roots():
            seen, found = {}, [root]
            while found:
                node = found.pop()
                if id(node) not in seen:
                    seen[id(node)] = node
                    more, rows = self.called(node)
                    found += more
                    if rows + changes_in(node):
                        told.setdefault((root.name, root.lineno), []).append((node.name, rows + changes_in(node)))
        return told


def program_of(text):
    return Program([ast.parse(text)])


class Operators(unittest.TestCase):
    def test_they_change_nothing_and_call_nothing_that_they_hold(self):
        self.assertEqual(Program(list(TREES.values())).faults(), {})

    def test_a_method_with_the_name_of_one_that_changes_something_is_seen(self):
        told = []
        for path, tree in TREES.items():
            text = path.read_text(encoding="utf-8")
            told.append(ast.parse(text.replace("company.road_to_reader(", "company.copy(") if path.name == "bundles.py" else text))
        self.assertEqual({name for name, _ in Program(told).faults()}, {"__add__"})

    def test_this_check_sees_changes(self):
        for rows in (
            "self.n = 1", "other.n = 1", "self.rows[0] = 1", "other[0] = 1", "self.rows.append(1)", "other.append(1)",
            "self.n += 1", "rows = self.rows\n  rows.append(1)", "rows = {k: 1 for k in other}\n  rows[0] = 1",
            "del self.rows[0]", "other()", "self.rows[0]()", "self.told()", "change(other)", "Box().change()",
        ):
            text = f"class Box:\n def __add__(self, other):\n  {rows}\n def change(self):\n  self.n = 1\ndef change(box):\n box.change()"
            self.assertEqual([name for name, _ in program_of(text).faults()], ["__add__"], rows)
            text = text.replace("def __add__(self, other)", "@property\n def many(self)")
            self.assertEqual([name for name, _ in program_of(text).faults()], ["many"], rows)

    def test_this_check_lets_pass_what_changes_nothing_else(self):
        for rows in (
            "rows = []\n  rows.append(1)", "rows = sorted(other)\n  rows[0] = 1", "at = 0\n  at += 1", "return Box(other)",
            "rows = list(other)\n  rows.extend(other)", "return len(other) + self.n", "return told(other)",
        ):
            text = f"class Box:\n def __init__(self, n):\n  self.n = n\n def __add__(self, other):\n  {rows}\ndef told(box):\n return [box]"
            self.assertEqual(program_of(text).faults(), {}, rows)


if __name__ == "__main__":
    unittest.main()
