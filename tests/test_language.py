"""The package's own files keep to the small part of Python that the program is written in."""

import ast
import builtins
import pathlib
import re
import unittest

PACKAGE = pathlib.Path(__file__).resolve().parent.parent / "throwstack"

STATEMENTS = (
    ast.Assign, ast.AugAssign, ast.If, ast.While, ast.For, ast.Return, ast.Break, ast.Continue, ast.Pass, ast.Raise,
    ast.Expr, ast.FunctionDef, ast.ClassDef, ast.ImportFrom)
OUT = (
    ast.Set, ast.SetComp, ast.DictComp, ast.GeneratorExp, ast.NamedExpr, ast.Starred, ast.Div, ast.Yield, ast.YieldFrom,
    ast.Await, ast.Lambda, ast.JoinedStr)
BUILT_IN = ("len", "range", "min", "reversed")
METHODS = ("append", "extend", "index", "pop")
WORDS_OUT = re.compile(
    r"\b(type|typing|typing_extensions|enum|Enum|IntEnum|StrEnum|Flag|IntFlag|Generic|Protocol|ABC|ABCMeta|namedtuple"
    r"|NamedTuple|TypedDict|TYPE_CHECKING|abstractmethod)\b|dataclass|overload|contextmanager")


def files():
    return sorted(path for path in PACKAGE.iterdir() if path.name != "__pycache__")


def is_docstring(tree, node):
    return tree.body and node is tree.body[0] and isinstance(node.value, ast.Constant)


class Language(unittest.TestCase):
    def each_node(self):
        for path in files():
            tree = ast.parse(path.read_text())
            for node in ast.walk(tree):
                yield path.name, tree, node

    def test_files_and_signs(self):
        self.assertIn("desk.py", [path.name for path in files()])
        for path in files():
            self.assertRegex(path.name, r"^([a-z][a-z0-9_]*|__init__)\.py$")
            text = path.read_text()
            self.assertRegex(text, r"\A[ -~\n]*\Z")
            self.assertIsNone(WORDS_OUT.search(text), path.name)
            lines = text.split("\n")
            self.assertLessEqual(len(lines), 400)
            self.assertLessEqual(max(len(line) for line in lines), 120)

    def test_functions_are_short_and_plain(self):
        for name, tree, node in self.each_node():
            if isinstance(node, ast.FunctionDef):
                self.assertLessEqual(node.end_lineno - node.lineno + 1, 40, (name, node.name))
                self.assertEqual(node.decorator_list, [])
                self.assertIsNone(node.args.vararg or node.args.kwarg or node.returns)
                self.assertEqual(node.args.kwonlyargs + node.args.posonlyargs, [])

    def test_statements_and_expressions(self):
        for name, tree, node in self.each_node():
            if isinstance(node, ast.stmt):
                self.assertIsInstance(node, STATEMENTS, (name, node.lineno))
            self.assertNotIsInstance(node, OUT, name)
            if isinstance(node, ast.Expr) and not is_docstring(tree, node):
                self.assertIsInstance(node.value, ast.Call, (name, node.lineno))
            if isinstance(node, ast.Assign):
                self.assertEqual(len(node.targets), 1, (name, node.lineno))
            if isinstance(node, (ast.For, ast.While)):
                self.assertEqual(node.orelse, [], (name, node.lineno))

    def test_names(self):
        for name, tree, node in self.each_node():
            bound = [node.id] if isinstance(node, ast.Name) else [node.arg] if isinstance(node, ast.arg) else []
            for word in bound:
                self.assertFalse(word.startswith("_"), (name, word))
                if hasattr(builtins, word):
                    self.assertIn(word, BUILT_IN, (name, node.lineno))
            if isinstance(node, ast.Attribute) and hasattr([], node.attr):
                self.assertIn(node.attr, METHODS, (name, node.lineno))

    def test_is_stands_beside_none(self):
        for name, tree, node in self.each_node():
            if isinstance(node, ast.Compare) and any(isinstance(op, (ast.Is, ast.IsNot)) for op in node.ops):
                right = node.comparators[-1]
                self.assertIsInstance(right, ast.Constant, (name, node.lineno))
                self.assertIsNone(right.value)

    def test_imports_are_the_packages_own_and_go_one_way(self):
        drawn = {path.stem: [] for path in files()}
        for name, tree, node in self.each_node():
            if isinstance(node, ast.ImportFrom):
                self.assertIn(node, tree.body)
                self.assertEqual(node.level, 0)
                package, stem = node.module.split(".")
                self.assertEqual(package, "throwstack")
                drawn[name[:-3]].append(stem)
        while drawn:
            free = [stem for stem in drawn if not any(other in drawn for other in drawn[stem])]
            self.assertTrue(free, drawn)
            drawn = {stem: drawn[stem] for stem in drawn if stem not in free}

    def test_no_name_is_a_method_and_a_value(self):
        methods = []
        values = []
        for name, tree, node in self.each_node():
            if isinstance(node, ast.ClassDef):
                methods.extend(part.name for part in node.body if isinstance(part, ast.FunctionDef))
            if isinstance(node, ast.Attribute) and isinstance(node.ctx, ast.Store):
                values.append(node.attr)
        self.assertEqual([word for word in methods if word in values], [])


if __name__ == "__main__":
    unittest.main()
