"""The package keeps to the small part of Python that it is written in."""

import ast
import pathlib
import re
import unittest

PACKAGE = pathlib.Path(__file__).resolve().parent.parent / "losingnet"

NODES = set("""
    Module FunctionDef ClassDef arguments arg Return Assign AugAssign For While If Break Continue Pass Expr
    BoolOp And Or BinOp Add Sub Mult FloorDiv Mod UnaryOp Not USub IfExp Dict List Tuple ListComp comprehension
    Compare Eq NotEq Lt LtE Gt GtE In NotIn Is IsNot Call Constant Attribute Subscript Slice Name Load Store
""".split())
BUILT_IN = set("len range enumerate zip min max sum abs sorted reversed list tuple dict any all divmod".split())
METHODS = set("""
    append clear copy count extend get index insert items keys pop remove reverse setdefault update values
""".split())
WORDS = re.compile(
    r"\b(type|typing|enum|Enum|Flag|Generic|Protocol|ABC|namedtuple)\b|dataclass|overload|contextmanager")


def called_names(tree):
    return [node.func.id for node in ast.walk(tree) if isinstance(node, ast.Call) and isinstance(node.func, ast.Name)]


def called_methods(tree):
    return [
        node.func.attr for node in ast.walk(tree)
        if isinstance(node, ast.Call) and isinstance(node.func, ast.Attribute)]


class Language(unittest.TestCase):
    def setUp(self):
        self.texts = {path.name: path.read_text() for path in PACKAGE.glob("*.py")}
        self.trees = {name: ast.parse(text) for name, text in self.texts.items()}
        self.own = {
            node.name for tree in self.trees.values() for node in ast.walk(tree)
            if isinstance(node, (ast.FunctionDef, ast.ClassDef))}

    def test_only_python_files_lie_in_the_package(self):
        names = [path.name for path in PACKAGE.iterdir() if path.name != "__pycache__"]
        self.assertEqual(sorted(names), ["__init__.py", "views.py"])

    def test_signs_and_sizes(self):
        for name, text in self.texts.items():
            with self.subTest(name=name):
                self.assertRegex(text, r"\A[ -~\n]*\Z")
                self.assertLessEqual(len(text.splitlines()), 400)
                self.assertLessEqual(max(len(line) for line in text.splitlines()), 120)
                self.assertIsNone(WORDS.search(text))

    def test_functions_are_small(self):
        for tree in self.trees.values():
            for node in ast.walk(tree):
                if isinstance(node, ast.FunctionDef):
                    with self.subTest(function=node.name):
                        self.assertLessEqual(node.end_lineno - node.lineno + 1, 40)
                        self.assertEqual(node.decorator_list, [])

    def test_only_the_plain_forms_stand_there(self):
        for name, tree in self.trees.items():
            forms = {node.__class__.__name__ for node in ast.walk(tree)}
            with self.subTest(name=name):
                self.assertEqual(forms - NODES, set())

    def test_only_known_names_are_called(self):
        for name, tree in self.trees.items():
            with self.subTest(name=name):
                self.assertEqual(set(called_names(tree)) - BUILT_IN - self.own, set())
                self.assertEqual(set(called_methods(tree)) - METHODS - self.own, set())

    def test_names_do_not_begin_with_an_underscore(self):
        for tree in self.trees.values():
            for node in ast.walk(tree):
                if isinstance(node, ast.Name):
                    self.assertFalse(node.id.startswith("_"), node.id)

    def test_no_name_is_a_method_here_and_a_value_there(self):
        methods, kept = set(), set()
        for tree in self.trees.values():
            for node in ast.walk(tree):
                if isinstance(node, ast.ClassDef):
                    methods |= {item.name for item in node.body if isinstance(item, ast.FunctionDef)}
                if isinstance(node, ast.Attribute) and isinstance(node.ctx, ast.Store):
                    kept.add(node.attr)
        self.assertEqual(methods & kept, set())


if __name__ == "__main__":
    unittest.main()
