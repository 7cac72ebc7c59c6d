"""Rules of the program's small language that can be seen in a file by itself."""

import ast
import builtins
import unittest

from tests.test_layout import FILES

BUILTINS = set(
    "len range enumerate zip min max sum abs sorted reversed int str bool bytes list tuple dict set frozenset isinstance "
    "ord repr any all divmod iter next property staticmethod classmethod super Exception ValueError TypeError KeyError "
    "IndexError LookupError ZeroDivisionError ArithmeticError OverflowError RuntimeError NotImplementedError "
    "NotImplemented".split()
)
DOUBLE = set(
    "__init__ __eq__ __repr__ __str__ __len__ __enter__ __exit__ __call__ __iter__ __add__ __rshift__ __contains__ "
    "__getitem__".split()
)
METHODS = set(
    "append clear copy count endswith extend find get index insert isalnum isalpha isdigit islower isspace isupper items "
    "join keys ljust lower lstrip partition pop remove replace reverse rfind rjust rpartition rsplit rstrip setdefault "
    "split splitlines startswith strip update upper values zfill bit_length".split()
)
# Doctest binds "_" among the builtins; it is none.
ALL_BUILTINS = set(dir(builtins)) - {"_"}
IN_ONE_PIECE = ("any", "all", "min", "max", "sum", "sorted")
TREES = {path: ast.parse(path.read_text(encoding="utf-8")) for path in FILES}


def nodes_of(tree, *kinds):
    return [node for node in ast.walk(tree) if isinstance(node, kinds)]


def is_text(node):
    """Whether a returned value is plainly a string: L28."""
    if isinstance(node, ast.JoinedStr):
        return True
    if isinstance(node, ast.Constant):
        return isinstance(node.value, str)
    if not isinstance(node, ast.Call):
        return False
    if isinstance(node.func, ast.Attribute):
        return node.func.attr == "join" and isinstance(node.func.value, ast.Constant)
    return isinstance(node.func, ast.Name) and node.func.id in ("str", "repr")


def is_number(node):
    """Whether a returned value is plainly a number: L28."""
    if isinstance(node, ast.Constant):
        return isinstance(node.value, int) and not isinstance(node.value, bool)
    return isinstance(node, ast.Call) and isinstance(node.func, ast.Name) and node.func.id == "len"


class Returns(unittest.TestCase):
    def test_what_str_repr_and_len_return(self):
        for path, tree in TREES.items():
            for node in nodes_of(tree, ast.FunctionDef):
                told = {"__str__": is_text, "__repr__": is_text, "__len__": is_number}.get(node.name)
                if told is not None:
                    self.assertIsInstance(node.body[-1], ast.Return, (path, node.name))
                    for row in nodes_of(node, ast.Return):
                        self.assertTrue(told(row.value), (path, row.lineno))

    def test_init_returns_nothing(self):
        for path, tree in TREES.items():
            for node in nodes_of(tree, ast.FunctionDef):
                if node.name == "__init__":
                    self.assertEqual(nodes_of(node, ast.Return), [], path)

    def test_these_checks_see_a_name_and_a_sum(self):
        for text in ("NAME", "self.name", "'a' + 'b'", "told(self)", "sep.join(rows)", "7"):
            self.assertFalse(is_text(ast.parse(text).body[0].value), text)
        for text in ("many", "len(a) + 1", "True", "'a'", "self.many"):
            self.assertFalse(is_number(ast.parse(text).body[0].value), text)


class Statements(unittest.TestCase):
    def test_kinds_that_are_not_used(self):
        barred = (
            ast.Global, ast.AsyncFunctionDef, ast.Await, ast.Import, ast.Set, ast.SetComp, ast.GeneratorExp, ast.Yield,
            ast.YieldFrom, ast.Match, ast.NamedExpr, ast.Assert, ast.Div, ast.AnnAssign, ast.Nonlocal, ast.ExceptHandler,
        )
        for path, tree in TREES.items():
            for node in nodes_of(tree, *barred):
                # A set may stand directly in len or sorted; nothing else of these is needed so far.
                self.assertIsInstance(node, ast.SetComp, (path, node))
                self.assertTrue(any(
                    isinstance(call.func, ast.Name) and call.func.id in ("len", "sorted") and call.args == [node]
                    for call in nodes_of(tree, ast.Call)
                ), (path, node.lineno))

    def test_blocks_with_an_end(self):
        for path, tree in TREES.items():
            for node in nodes_of(tree, ast.With):
                for item in node.items:
                    self.assertIsInstance(item.context_expr, (ast.Call, ast.Name, ast.Attribute), (path, node.lineno))
                    self.assertIsInstance(item.optional_vars, (ast.Name, type(None)), (path, node.lineno))
            ends = [row for node in nodes_of(tree, ast.Try) for row in node.finalbody]
            for node in nodes_of(tree, ast.FunctionDef):
                if node.name == "__exit__":
                    ends += node.body
            for row in ends:
                self.assertIsInstance(row, ast.Assign, (path, row.lineno))
                self.assertEqual(len(row.targets), 1, (path, row.lineno))
                for part in (row.targets[0], row.value):
                    self.assertIsInstance(part, (ast.Name, ast.Attribute, ast.Constant), (path, row.lineno))

    def test_module_level(self):
        for path, tree in TREES.items():
            for node in tree.body:
                self.assertIsInstance(node, (ast.Expr, ast.ImportFrom, ast.FunctionDef, ast.ClassDef, ast.Assign), path)
                if isinstance(node, ast.Expr):
                    self.assertIsInstance(node.value, ast.Constant, path)
                if isinstance(node, ast.Assign):
                    self.assertEqual(len(node.targets), 1, path)
                    self.assertIsInstance(node.targets[0], ast.Name, path)

    def test_is_stands_beside_constants(self):
        for path, tree in TREES.items():
            for node in nodes_of(tree, ast.Compare):
                for sign, right in zip(node.ops, node.comparators):
                    if isinstance(sign, (ast.Is, ast.IsNot)):
                        self.assertIsInstance(right, ast.Constant, (path, node.lineno))

    def test_errors_are_made_where_they_are_raised(self):
        for path, tree in TREES.items():
            for node in nodes_of(tree, ast.Raise):
                self.assertIsInstance(node.exc, ast.Call, (path, node.lineno))
                self.assertIsInstance(node.exc.func, ast.Name, (path, node.lineno))
                self.assertTrue(node.exc.func.id[0].isupper(), (path, node.lineno))


class Names(unittest.TestCase):
    def bound(self, tree):
        """The names that a file gives to something, those of methods and attributes left out."""
        methods = {id(part) for node in nodes_of(tree, ast.ClassDef) for part in node.body}
        for node in ast.walk(tree):
            if isinstance(node, (ast.FunctionDef, ast.ClassDef)) and id(node) not in methods:
                yield node.name
            elif isinstance(node, ast.arg):
                yield node.arg
            elif isinstance(node, ast.Name) and isinstance(node.ctx, ast.Store):
                yield node.id

    def test_no_name_of_a_builtin_is_given_again(self):
        for path, tree in TREES.items():
            for name in self.bound(tree):
                self.assertNotIn(name, ALL_BUILTINS, path)
                self.assertFalse(name.startswith("__"), (path, name))

    def test_no_name_of_an_import_or_a_class_is_given_again(self):
        for path, tree in TREES.items():
            taken = [part.name for node in nodes_of(tree, ast.ImportFrom) for part in node.names]
            taken += [node.name for node in nodes_of(tree, ast.ClassDef)]
            self.assertEqual(len(taken), len(set(taken)), path)
            classes = {node.name for node in nodes_of(tree, ast.ClassDef)}
            for name in self.bound(tree):
                self.assertTrue(name not in taken or name in classes, (path, name))

    def test_imports_are_used(self):
        for path, tree in TREES.items():
            used = {node.id for node in nodes_of(tree, ast.Name)}
            for node in nodes_of(tree, ast.ImportFrom):
                for part in node.names:
                    self.assertIn(part.name, used, path)

    def test_builtins_that_are_called(self):
        for path, tree in TREES.items():
            for node in nodes_of(tree, ast.Name):
                if node.id in ALL_BUILTINS:
                    self.assertIn(node.id, BUILTINS, (path, node.lineno))

    def test_double_underscore_methods(self):
        for path, tree in TREES.items():
            for node in nodes_of(tree, ast.FunctionDef):
                if node.name.startswith("__"):
                    self.assertIn(node.name, DOUBLE, path)
            for node in nodes_of(tree, ast.Attribute):
                self.assertFalse(node.attr.startswith("__"), (path, node.lineno))

    def test_properties_have_names_of_their_own(self):
        properties, methods, attributes = set(), set(), set()
        for tree in TREES.values():
            for shape in nodes_of(tree, ast.ClassDef):
                for node in shape.body:
                    if isinstance(node, ast.FunctionDef):
                        words = [word.id for word in node.decorator_list if isinstance(word, ast.Name)]
                        if not any(isinstance(word, ast.Attribute) and word.attr == "setter" for word in node.decorator_list):
                            (properties if "property" in words else methods).add(node.name)
            for node in nodes_of(tree, ast.Attribute):
                if isinstance(node.ctx, ast.Store):
                    attributes.add(node.attr)
        self.assertEqual(properties & methods, set())
        self.assertEqual(properties & METHODS, set())
        self.assertEqual(attributes & (properties | methods), set())


class Calls(unittest.TestCase):
    def test_no_generator_is_given_to_these(self):
        for path, tree in TREES.items():
            for node in nodes_of(tree, ast.Call):
                if isinstance(node.func, ast.Name) and node.func.id in IN_ONE_PIECE:
                    for part in node.args:
                        self.assertNotIsInstance(part, ast.GeneratorExp, (path, node.lineno))

    def test_stars(self):
        for path, tree in TREES.items():
            for call in nodes_of(tree, ast.Call):
                stars = [at for at, part in enumerate(call.args) if isinstance(part, ast.Starred)]
                for part in call.args[stars[0]:] if stars else []:
                    told = part.value if isinstance(part, ast.Starred) else part
                    self.assertIsInstance(told, (ast.Name, ast.Attribute, ast.Constant), (path, call.lineno))
            for star in nodes_of(tree, ast.Starred):
                if isinstance(star.value, ast.Call) and isinstance(star.value.func, ast.Name):
                    self.assertNotIn(star.value.func.id, ("range", "zip", "enumerate", "map"), (path, star.lineno))

    def test_views_and_ranges_are_iterated_at_once(self):
        places = ("list", "tuple", "dict", "sorted", "sum", "any", "all", "enumerate", "zip")
        for path, tree in TREES.items():
            fine = [node.iter for node in nodes_of(tree, ast.For, ast.comprehension)]
            for call in nodes_of(tree, ast.Call):
                if isinstance(call.func, ast.Name) and call.func.id in places:
                    fine += call.args
                if isinstance(call.func, ast.Attribute) and call.func.attr == "join":
                    fine += call.args
            for call in nodes_of(tree, ast.Call):
                name = call.func.id if isinstance(call.func, ast.Name) else call.func.attr
                if name in ("range", "zip", "enumerate", "items", "keys", "values"):
                    self.assertIn(call, fine, (path, call.lineno))

    def test_reversed_and_sort_are_not_used(self):
        for path, tree in TREES.items():
            for node in nodes_of(tree, ast.Name, ast.Attribute):
                name = node.id if isinstance(node, ast.Name) else node.attr
                self.assertNotIn(name, ("reversed", "sort", "format", "mro", "register", "elements"), (path, node.lineno))

    def test_what_a_loop_goes_over_is_not_changed_in_it(self):
        changing = ("append", "extend", "insert", "pop", "remove", "clear", "update", "setdefault", "reverse")
        for path, tree in TREES.items():
            for loop in nodes_of(tree, ast.For):
                over = {ast.unparse(node) for node in nodes_of(loop.iter, ast.Name, ast.Attribute)}
                for node in [part for row in loop.body for part in ast.walk(row)]:
                    if isinstance(node, ast.Call) and isinstance(node.func, ast.Attribute) and node.func.attr in changing:
                        self.assertNotIn(ast.unparse(node.func.value), over, (path, node.lineno))
                    if isinstance(node, ast.Subscript) and not isinstance(node.ctx, ast.Load):
                        self.assertNotIn(ast.unparse(node.value), over, (path, node.lineno))

    def test_strings(self):
        for path, tree in TREES.items():
            for node in nodes_of(tree, ast.Constant):
                if isinstance(node.value, str):
                    self.assertNotIn("%", node.value, (path, node.lineno))
                    self.assertFalse(node.value.endswith(("._", ".__")), (path, node.lineno))


if __name__ == "__main__":
    unittest.main()
