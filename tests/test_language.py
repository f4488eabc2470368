"""The package's files keep to the part of Python that the program is written in."""

import ast
import builtins
import pathlib
import re
import unittest

PACKAGE = pathlib.Path(__file__).resolve().parent.parent / "volleysheet"
FILES = sorted(PACKAGE.rglob("*.py"))

STATEMENTS = (ast.Module, ast.FunctionDef, ast.ClassDef, ast.ImportFrom, ast.Assign, ast.AugAssign, ast.If, ast.While,
              ast.For, ast.Return, ast.Break, ast.Continue, ast.Pass, ast.Raise, ast.Try, ast.ExceptHandler, ast.Expr)
EXPRESSIONS = (ast.BoolOp, ast.BinOp, ast.UnaryOp, ast.IfExp, ast.Dict, ast.List, ast.Tuple, ast.Compare, ast.Call,
               ast.Constant, ast.Attribute, ast.Subscript, ast.Slice, ast.Name, ast.ListComp, ast.comprehension)
SMALL_PARTS = (ast.expr_context, ast.boolop, ast.operator, ast.unaryop, ast.cmpop, ast.arguments, ast.arg, ast.keyword,
               ast.alias)
OWN_NAMES = set("len range enumerate zip min max sum abs sorted reversed int str bool list tuple dict set isinstance "
                "ord repr any all divmod KeyError ValueError".split())
OWN_METHODS = set("append extend get index items copy pop insert".split())
WORDS = re.compile(r"\b(type|typing|enum|Enum|Flag|Generic|Protocol|ABC)\b|dataclass|overload|contextmanager|namedtuple")


class Language(unittest.TestCase):
    def trees(self):
        for path in FILES:
            text = path.read_text(encoding="utf-8")
            yield path.name, text, ast.parse(text)

    def nodes(self, *kinds):
        for name, text, tree in self.trees():
            for node in ast.walk(tree):
                if isinstance(node, kinds or ast.AST):
                    yield f"{name}:{getattr(node, 'lineno', 0)}", node

    def test_the_folder_holds_python_files_alone(self):
        found = [path for path in PACKAGE.rglob("*") if "__pycache__" not in path.parts]
        self.assertEqual(sorted(found), FILES)
        self.assertIn(PACKAGE / "__init__.py", FILES)

    def test_sizes_and_signs(self):
        for name, text, tree in self.trees():
            lines = text.split("\n")
            self.assertLessEqual(len(lines), 400, name)
            self.assertLessEqual(max(map(len, lines)), 120, name)
            self.assertRegex(text, r"\A[\n -~]*\Z", name)
            self.assertIsNone(WORDS.search(text), name)
        for where, node in self.nodes(ast.FunctionDef):
            self.assertLessEqual(node.end_lineno - node.lineno + 1, 40, where)
            self.assertEqual(node.decorator_list, [], where)

    def test_statements_and_expressions(self):
        for where, node in self.nodes():
            self.assertIsInstance(node, STATEMENTS + EXPRESSIONS + SMALL_PARTS, where)
            self.assertNotIsInstance(node, (ast.Div, ast.MatMult), where)
            if isinstance(node, ast.Assign):
                self.assertEqual(len(node.targets), 1, where)
                self.assertNotIsInstance(node.targets[0], (ast.Tuple, ast.List), where)
            if isinstance(node, ast.Constant):
                self.assertIn(node.value.__class__, (int, str, bool, None.__class__), where)

    def test_is_stands_beside_none_true_and_false_alone(self):
        for where, node in self.nodes(ast.Compare):
            for sign, value in zip(node.ops, node.comparators):
                if isinstance(sign, (ast.Is, ast.IsNot)):
                    self.assertIsInstance(value, ast.Constant, where)
                    self.assertTrue(value.value is None or isinstance(value.value, bool), where)

    def test_imports_are_the_packages_own(self):
        for where, node in self.nodes(ast.ImportFrom):
            self.assertEqual(node.level, 0, where)
            self.assertTrue(node.module.startswith("volleysheet."), where)

    def test_names(self):
        for where, node in self.nodes(ast.Name, ast.arg, ast.FunctionDef, ast.ClassDef):
            name = getattr(node, "id", None) or getattr(node, "arg", None) or node.name
            if name == "__init__":
                continue
            self.assertFalse(name.startswith("_"), where)
            if isinstance(node, ast.Name) and isinstance(node.ctx, ast.Load):
                self.assertTrue(name in OWN_NAMES or name not in dir(builtins), where)
            else:
                self.assertNotIn(name, dir(builtins), where)

    def test_no_name_is_a_method_and_a_value(self):
        methods = set()
        for where, node in self.nodes(ast.ClassDef):
            methods |= {part.name for part in node.body if isinstance(part, ast.FunctionDef)}
        values = {node.attr for where, node in self.nodes(ast.Attribute) if isinstance(node.ctx, ast.Store)}
        self.assertEqual(methods & values, set())
        called = {node.func.attr for where, node in self.nodes(ast.Call) if isinstance(node.func, ast.Attribute)}
        self.assertLessEqual(called, methods | OWN_METHODS)
        taken = set()
        for kind in (str, int, list, dict, set, bytes):
            taken |= set(dir(kind))
        self.assertEqual((methods | values) & taken, {"__init__"})
