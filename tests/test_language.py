"""The package keeps to its small part of Python: those of the rules that can be read off the files."""

import ast
import re
import unittest
from pathlib import Path

PACKAGE = Path(__file__).resolve().parent.parent / "planenumbers"
FILES = [p for p in sorted(PACKAGE.rglob("*")) if "__pycache__" not in p.parts]

BUILT_IN = """len range enumerate zip min max sum abs sorted reversed int str bool list tuple dict isinstance any all
divmod""".split()
METHODS = "append copy count extend get index insert items keys pop values".split()
NODES = """Module FunctionDef arguments arg Assign If While For Return Break Continue Pass Expr BinOp UnaryOp BoolOp
Compare IfExp Call Attribute Subscript Slice ListComp comprehension Constant Name List Tuple Dict Load Store Add Sub
Mult FloorDiv Mod Pow USub Not And Or Eq NotEq Lt LtE Gt GtE In NotIn""".split()
BANNED_WORDS = r"\b(type|typing|enum|Enum|Flag|Generic|Protocol|ABC|namedtuple|register|elements|open|input|eval|exec)\b"


def bound_names(tree):
    names = set()
    for node in ast.walk(tree):
        if isinstance(node, ast.FunctionDef):
            names.add(node.name)
        elif isinstance(node, ast.arg):
            names.add(node.arg)
        elif isinstance(node, ast.Name) and isinstance(node.ctx, ast.Store):
            names.add(node.id)
    return names


class Language(unittest.TestCase):
    def trees(self):
        for path in FILES:
            yield path.name, ast.parse(path.read_text(encoding="ascii"))

    def test_files(self):
        self.assertEqual([p.name for p in FILES], ["__init__.py", "plane.py"])

    def test_signs_and_size(self):
        for path in FILES:
            text = path.read_text(encoding="utf-8")
            self.assertRegex(text, r"\A[\n -~]*\Z", path.name)
            self.assertIsNone(re.search(BANNED_WORDS, text), path.name)
            rows = text.split("\n")
            self.assertLessEqual(len(rows), 400)
            self.assertLessEqual(max(len(row) for row in rows), 120)

    def test_statements_and_expressions(self):
        for name, tree in self.trees():
            for node in ast.walk(tree):
                where = (name, getattr(node, "lineno", 0))
                self.assertIn(node.__class__.__name__, NODES, where)
                if isinstance(node, (ast.For, ast.While)):
                    self.assertEqual(node.orelse, [], where)
                if isinstance(node, ast.Assign):
                    self.assertEqual([t.__class__ for t in node.targets], [ast.Name], where)
                if isinstance(node, ast.Constant):
                    self.assertIn(node.value.__class__, (int, str, bool), where)
                if isinstance(node, ast.BinOp) and isinstance(node.op, ast.Pow):
                    self.assertIsInstance(node.right, ast.Constant, where)
                if isinstance(node, ast.FunctionDef):
                    self.assertEqual(node.decorator_list, [], where)
                    self.assertLessEqual(node.end_lineno - node.lineno + 1, 40, where)

    def test_names(self):
        python_names = set(dir(__builtins__) if not isinstance(__builtins__, dict) else __builtins__)
        for name, tree in self.trees():
            bound = bound_names(tree)
            for one in bound:
                self.assertRegex(one, r"\A[A-Za-z][A-Za-z0-9_]*\Z")
            self.assertEqual(bound & python_names, set(), name)
            for node in ast.walk(tree):
                if isinstance(node, ast.Name) and isinstance(node.ctx, ast.Load):
                    self.assertIn(node.id, bound | set(BUILT_IN), (name, node.lineno))
                if isinstance(node, ast.Attribute):
                    self.assertIn(node.attr, METHODS, (name, node.lineno))

    def test_top_is_bound_once_and_nothing_is_done_there(self):
        for name, tree in self.trees():
            top = []
            for k, node in enumerate(tree.body):
                if k == 0:
                    self.assertIsNotNone(ast.get_docstring(tree))
                elif isinstance(node, ast.FunctionDef):
                    top.append(node.name)
                else:
                    self.assertIsInstance(node, ast.Assign, (name, node.lineno))
                    ast.literal_eval(node.value)
                    top.append(node.targets[0].id)
            self.assertEqual(len(top), len(set(top)), name)


if __name__ == "__main__":
    unittest.main()
