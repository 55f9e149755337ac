"""The part of Python that the package keeps to, as far as a look at its files can tell."""

import ast
import pathlib
import re
import unittest

PACKAGE = pathlib.Path(__file__).resolve().parent.parent / "boatstoshore"

NODES = (
    ast.Module, ast.FunctionDef, ast.ClassDef, ast.ImportFrom, ast.alias, ast.arguments, ast.arg, ast.Assign,
    ast.AugAssign, ast.If, ast.While, ast.For, ast.Return, ast.Break, ast.Continue, ast.Pass, ast.Expr, ast.Constant,
    ast.List, ast.Tuple, ast.Dict, ast.BinOp, ast.UnaryOp, ast.BoolOp, ast.Compare, ast.IfExp, ast.Call, ast.Attribute,
    ast.Subscript, ast.Slice, ast.ListComp, ast.comprehension, ast.Name, ast.keyword, ast.expr_context, ast.operator,
    ast.unaryop, ast.boolop, ast.cmpop,
)
BUILT_IN = (
    "len", "range", "enumerate", "zip", "min", "max", "sum", "abs", "sorted", "reversed", "int", "str", "bool", "list",
    "tuple", "dict", "isinstance", "any", "all", "divmod",
)
METHODS = ("append", "clear", "copy", "count", "extend", "get", "index", "insert", "items", "keys", "pop", "values")
WORDS = (
    "type", "typing", "typing_extensions", "enum", "Enum", "IntEnum", "StrEnum", "Flag", "IntFlag", "Generic",
    "Protocol", "ABC", "ABCMeta", "namedtuple", "NamedTuple", "TypedDict", "TYPE_CHECKING", "abstractmethod",
)


def files():
    return sorted(path for path in PACKAGE.rglob("*") if "__pycache__" not in path.parts)


def trees():
    return [(path, ast.parse(path.read_text(encoding="ascii"))) for path in files()]


def every(tree, kind):
    return [node for node in ast.walk(tree) if isinstance(node, kind)]


def bound_names(tree):
    """What a file defines or draws from another, in whatever place."""
    names = {node.name for node in every(tree, (ast.FunctionDef, ast.ClassDef, ast.alias))}
    names |= {node.arg for node in every(tree, ast.arg)}
    return names | {node.id for node in every(tree, ast.Name) if isinstance(node.ctx, ast.Store)}


class Files(unittest.TestCase):
    def test_plain_python_files_alone(self):
        self.assertIn(PACKAGE / "__init__.py", files())
        for path in files():
            self.assertRegex(path.name, r"^([a-z][a-z0-9_]*|__init__)\.py$")
            self.assertNotRegex(path.name, r"^(test|tests|testing|test_.*|site|conftest)\.py$")

    def test_signs_and_sizes(self):
        for path in files():
            text = path.read_text(encoding="ascii")
            self.assertRegex(text, r"\A[ -~\n]*\Z", path)
            rows = text.split("\n")
            self.assertLessEqual(len(rows), 400, path)
            self.assertLessEqual(max(len(row) for row in rows), 120, path)

    def test_words_that_stand_nowhere(self):
        for path in files():
            text = path.read_text(encoding="ascii")
            self.assertEqual([word for word in WORDS if re.search(rf"\b{word}\b", text)], [], path)
            self.assertNotRegex(text, "dataclass|overload|contextmanager", path)

    def test_functions_are_short(self):
        for path, tree in trees():
            for node in every(tree, ast.FunctionDef):
                self.assertLessEqual(node.end_lineno - node.lineno + 1, 40, (path, node.name))
                self.assertEqual((node.decorator_list, node.args.vararg, node.args.kwarg), ([], None, None))


class Statements(unittest.TestCase):
    def test_plain_ones_alone(self):
        for path, tree in trees():
            for node in ast.walk(tree):
                self.assertIsInstance(node, NODES, (path, ast.dump(node)))
                self.assertNotIsInstance(node, (ast.Div, ast.MatMult), path)

    def test_values_are_plain(self):
        for path, tree in trees():
            for node in every(tree, ast.Constant):
                self.assertIn(type(node.value), (int, str, bool, type(None)), (path, node.lineno))

    def test_loops_assignments_and_comprehensions(self):
        for path, tree in trees():
            for node in every(tree, (ast.For, ast.While)):
                self.assertEqual(node.orelse, [], path)
            for node in every(tree, ast.Assign):
                self.assertEqual(len(node.targets), 1, path)
            for node in every(tree, ast.ListComp):
                self.assertEqual(len(node.generators), 1, path)
                self.assertLessEqual(len(node.generators[0].ifs), 1, path)

    def test_is_stands_beside_none_true_and_false(self):
        for path, tree in trees():
            for node in every(tree, ast.Compare):
                for sign, right in zip(node.ops, node.comparators):
                    if isinstance(sign, (ast.Is, ast.IsNot)):
                        self.assertIn(getattr(right, "value", 0), (None, True, False), path)


class Names(unittest.TestCase):
    def test_only_known_ones(self):
        for path, tree in trees():
            known = bound_names(tree) | set(BUILT_IN)
            used = {node.id for node in every(tree, ast.Name)}
            self.assertEqual(sorted(used - known), [], path)
            self.assertEqual(sorted(bound_names(tree) & set(BUILT_IN)), [], path)

    def test_none_begins_with_an_underscore(self):
        for path, tree in trees():
            names = bound_names(tree) | {node.attr for node in every(tree, ast.Attribute)}
            self.assertEqual([name for name in names if name.startswith("_") and name != "__init__"], [], path)

    def test_locals_are_not_called_like_what_the_file_has(self):
        for path, tree in trees():
            top = {node.name for node in every(tree, (ast.ClassDef, ast.alias, ast.FunctionDef))}
            stored = [node.id for node in every(tree, ast.Name) if isinstance(node.ctx, ast.Store)]
            stored += [node.arg for node in every(tree, ast.arg)]
            methods = {part.name for node in every(tree, ast.ClassDef) for part in node.body
                       if isinstance(part, ast.FunctionDef)}
            self.assertEqual([name for name in stored if name in top - methods], [], path)

    def test_methods_and_values_of_objects(self):
        methods, values = set(METHODS), set()
        for path, tree in trees():
            for node in every(tree, ast.ClassDef):
                methods |= {part.name for part in every(node, ast.FunctionDef)}
            values |= {node.attr for node in every(tree, ast.Attribute) if isinstance(node.ctx, ast.Store)}
        self.assertEqual(sorted(methods & values), [])
        for path, tree in trees():
            called = {node.func.attr for node in every(tree, ast.Call) if isinstance(node.func, ast.Attribute)}
            self.assertEqual(sorted(called - methods), [], path)


class Imports(unittest.TestCase):
    def test_from_the_files_that_define_the_names(self):
        defined = {}
        for path, tree in trees():
            defined[f"boatstoshore.{path.stem}"] = {
                getattr(node, "name", None) or node.targets[0].id for node in tree.body
                if isinstance(node, (ast.FunctionDef, ast.ClassDef, ast.Assign))
            }
        for path, tree in trees():
            for node in every(tree, ast.ImportFrom):
                self.assertEqual(node.level, 0, path)
                for name in node.names:
                    self.assertIn(name.name, defined[node.module], path)

    def test_no_two_files_draw_from_one_another(self):
        drawn = {f"boatstoshore.{path.stem}": {node.module for node in every(tree, ast.ImportFrom)}
                 for path, tree in trees()}
        while drawn:
            free = [name for name, others in drawn.items() if not others & set(drawn)]
            self.assertNotEqual(free, [], drawn)
            for name in free:
                del drawn[name]
