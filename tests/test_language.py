"""What can be seen at a glance of the rules that the package's own files keep to."""

import ast
import builtins
import pathlib
import re
import unittest

PACKAGE = pathlib.Path(__file__).resolve().parent.parent / "roundpowers"

OWN_NAMES_OF_PYTHON = {
    "len", "range", "enumerate", "zip", "min", "max", "sum", "abs", "sorted", "reversed", "int", "str", "bool", "list",
    "tuple", "dict", "set", "isinstance", "ord", "repr", "any", "all", "divmod"}

METHODS = {"append", "extend", "get", "index", "insert", "items", "pop", "copy"}

NODES = (
    ast.Module, ast.Expr, ast.Constant, ast.FunctionDef, ast.arguments, ast.arg, ast.Assign, ast.AugAssign, ast.Name,
    ast.If, ast.While, ast.For, ast.Return, ast.Break, ast.Continue, ast.Call, ast.Attribute, ast.Subscript, ast.Slice,
    ast.List, ast.Tuple, ast.Dict, ast.ListComp, ast.comprehension, ast.BinOp, ast.UnaryOp, ast.BoolOp, ast.Compare,
    ast.IfExp, ast.expr_context, ast.operator, ast.unaryop, ast.boolop, ast.cmpop)

WORDS_NOT_USED = re.compile(r"\b(type|typing|enum|Enum|Flag|Generic|Protocol|ABC|namedtuple)\b|dataclass|overload")


def bound_names(tree):
    names = set()
    for node in ast.walk(tree):
        if isinstance(node, ast.FunctionDef):
            names.add(node.name)
        if isinstance(node, ast.arg):
            names.add(node.arg)
        if isinstance(node, ast.Name) and isinstance(node.ctx, ast.Store):
            names.add(node.id)
    return names


class LanguageTest(unittest.TestCase):
    def setUp(self):
        self.texts = {path.name: path.read_bytes().decode("ascii") for path in sorted(PACKAGE.glob("*.py"))}
        self.trees = {name: ast.parse(text) for name, text in self.texts.items()}

    def test_only_plain_files(self):
        names = sorted(path.name for path in PACKAGE.iterdir() if path.name != "__pycache__")
        self.assertEqual(names, sorted(self.texts))
        self.assertIn("__init__.py", names)
        self.assertIn("units.py", names)

    def test_signs_and_sizes(self):
        for name, text in self.texts.items():
            self.assertRegex(text, r"\A[ -~\n]*\Z", name)
            self.assertIsNone(WORDS_NOT_USED.search(text), name)
            lines = text.splitlines()
            self.assertLessEqual(len(lines), 400, name)
            self.assertLessEqual(max(len(line) for line in lines), 120, name)

    def test_functions_have_at_most_40_lines(self):
        for name, tree in self.trees.items():
            for node in ast.walk(tree):
                if isinstance(node, ast.FunctionDef):
                    self.assertLessEqual(node.end_lineno - node.lineno + 1, 40, (name, node.name))
                    self.assertEqual(node.decorator_list, [], (name, node.name))

    def test_only_the_plain_forms_and_no_import(self):
        for name, tree in self.trees.items():
            for node in ast.walk(tree):
                self.assertIsInstance(node, NODES, (name, getattr(node, "lineno", 0)))
                self.assertNotIsInstance(node, (ast.Div, ast.Pow, ast.MatMult, ast.Is, ast.IsNot), name)

    def test_names(self):
        for name, tree in self.trees.items():
            bound = bound_names(tree)
            self.assertEqual(bound & set(dir(builtins)), set(), name)
            self.assertEqual([word for word in bound if word.startswith("_")], [], name)
            for node in ast.walk(tree):
                if isinstance(node, ast.Name):
                    self.assertIn(node.id, bound | OWN_NAMES_OF_PYTHON, (name, node.lineno))
                if isinstance(node, ast.Attribute):
                    self.assertIn(node.attr, METHODS, (name, node.lineno))

    def test_no_function_comes_back_to_itself(self):
        for name, tree in self.trees.items():
            defs = {node.name: node for node in tree.body if isinstance(node, ast.FunctionDef)}
            within = {}
            for own, node in defs.items():
                within[own] = {inner.id for inner in ast.walk(node) if isinstance(inner, ast.Name)} & set(defs)
            # A function that calls only those already left out is left out in turn; a ring never is.
            while any(not called for called in within.values()):
                ended = {own for own, called in within.items() if not called}
                within = {own: called - ended for own, called in within.items() if own not in ended}
            self.assertEqual(within, {}, name)

    def test_each_name_of_a_files_top_is_bound_once(self):
        for name, tree in self.trees.items():
            names = [node.name for node in tree.body if isinstance(node, ast.FunctionDef)]
            for node in tree.body:
                if isinstance(node, ast.Assign):
                    names.extend(target.id for target in node.targets)
            self.assertEqual(len(names), len(set(names)), name)


if __name__ == "__main__":
    unittest.main()
