"""The package keeps to the part of Python that it's written in, as far as its rows can be told by reading them."""

import ast
import re
import unittest
from pathlib import Path

PACKAGE = Path(__file__).resolve().parent.parent / "wordhold"

STATEMENTS = (ast.Assign, ast.AugAssign, ast.If, ast.While, ast.For, ast.Return, ast.Break, ast.Continue, ast.Pass,
              ast.Expr, ast.FunctionDef, ast.ClassDef, ast.ImportFrom)
EXPRESSIONS = (ast.BinOp, ast.UnaryOp, ast.BoolOp, ast.Compare, ast.IfExp, ast.Call, ast.Attribute, ast.Subscript,
               ast.Slice, ast.List, ast.Tuple, ast.Dict, ast.ListComp, ast.Name, ast.Constant)
BUILT_IN = ("len", "range", "enumerate", "zip", "min", "max", "sum", "abs", "sorted", "list", "tuple", "dict", "set",
            "any", "all")
METHODS = ("append", "extend", "get", "pop", "items", "copy")
WORDS = ("type", "typing", "enum", "Enum", "Flag", "Generic", "Protocol", "ABC", "namedtuple", "register", "elements",
         "open", "input", "eval", "exec", "getattr", "setattr", "globals", "locals", "import_module")


def files():
    return sorted(path for path in PACKAGE.rglob("*") if "__pycache__" not in path.parts)


def trees():
    return [(path, ast.parse(path.read_text(encoding="ascii"))) for path in files()]


class Files(unittest.TestCase):
    def test_one_folder_of_plain_files(self):
        self.assertIn("__init__.py", [path.name for path in files()])
        for path in files():
            self.assertTrue(path.is_file(), path)
            self.assertRegex(path.name, r"^(__init__|[a-z][a-z0-9_]*)\.py$")
            self.assertNotRegex(path.name, r"^(test|conftest|site)")

    def test_rows_and_signs(self):
        for path in files():
            rows = path.read_bytes().decode("ascii").split("\n")
            self.assertLessEqual(len(rows), 401, path)
            for row in rows:
                self.assertLessEqual(len(row), 120, path)
                self.assertRegex(row, r"^[ -~]*$")

    def test_words_that_stand_nowhere(self):
        for path in files():
            found = [word for word in re.findall(r"\w+", path.read_text()) if word in WORDS]
            self.assertEqual(found, [], path)


class Trees(unittest.TestCase):
    def test_statements_and_expressions(self):
        for path, tree in trees():
            for node in ast.walk(tree):
                if isinstance(node, ast.stmt):
                    self.assertIsInstance(node, STATEMENTS, (path, node.lineno))
                if isinstance(node, ast.expr):
                    self.assertIsInstance(node, EXPRESSIONS, (path, node.lineno))
                if isinstance(node, (ast.While, ast.For)):
                    self.assertEqual(node.orelse, [], (path, node.lineno))
                if isinstance(node, ast.Assign):
                    self.assertEqual(len(node.targets), 1, (path, node.lineno))
                if isinstance(node, ast.Constant):
                    self.assertIn(type(node.value), (int, str, bool, type(None)), (path, node.lineno))
                self.assertNotIsInstance(node, (ast.Div, ast.MatMult))

    def test_imports_come_from_the_file_that_defines_the_name(self):
        bound = {}
        for path, tree in trees():
            bound["wordhold." + path.stem] = [row.name if hasattr(row, "name") else row.targets[0].id for row in tree.body
                                              if isinstance(row, (ast.FunctionDef, ast.ClassDef, ast.Assign))]
        for path, tree in trees():
            for node in ast.walk(tree):
                if isinstance(node, ast.ImportFrom):
                    self.assertEqual(node.level, 0)
                    for name in node.names:
                        self.assertIsNone(name.asname)
                        self.assertIn(name.name, bound[node.module], path)

    def test_no_two_files_draw_from_one_another(self):
        drawn = {}
        for path, tree in trees():
            drawn["wordhold." + path.stem] = {row.module for row in tree.body if isinstance(row, ast.ImportFrom)}
        while drawn:
            free = [name for name in drawn if not drawn[name] & set(drawn)]
            self.assertTrue(free, drawn)
            for name in free:
                drawn.pop(name)

    def test_defs(self):
        for path, tree in trees():
            for node in ast.walk(tree):
                if isinstance(node, (ast.FunctionDef, ast.ClassDef)):
                    self.assertEqual(node.decorator_list, [])
                if isinstance(node, ast.FunctionDef):
                    self.assertLessEqual(node.end_lineno - node.lineno + 1, 40, (path, node.name))
                    handed = node.args
                    self.assertEqual((handed.vararg, handed.kwarg, handed.kwonlyargs, handed.posonlyargs),
                                     (None, None, [], []))

    def test_names(self):
        for path, tree in trees():
            top = set()
            for row in tree.body:
                names = [name.name for name in row.names] if isinstance(row, ast.ImportFrom) else []
                names += [row.name] if isinstance(row, (ast.FunctionDef, ast.ClassDef)) else []
                names += [row.targets[0].id] if isinstance(row, ast.Assign) else []
                self.assertFalse(top & set(names), path)
                top |= set(names)
            stored = [node.id for node in ast.walk(tree)
                      if isinstance(node, ast.Name) and isinstance(node.ctx, ast.Store) and node.col_offset > 0]
            stored += [node.arg for node in ast.walk(tree) if isinstance(node, ast.arg)]
            for name in stored:
                self.assertNotIn(name, top, path)
                self.assertNotIn(name, dir(__builtins__) if not isinstance(__builtins__, dict) else __builtins__, path)
                self.assertFalse(name.startswith("_"), path)
            for node in ast.walk(tree):
                if isinstance(node, ast.Name) and isinstance(node.ctx, ast.Load):
                    self.assertIn(node.id, top | set(stored) | set(BUILT_IN), (path, node.lineno))
                if isinstance(node, ast.Call) and isinstance(node.func, ast.Attribute):
                    self.assertIn(node.func.attr, METHODS, (path, node.lineno))

    def test_values_of_objects_are_not_called_like_those_of_python_s_own(self):
        own = {name for one in (str, int, list, tuple, dict, set, bytes, Exception) for name in dir(one)}
        for path, tree in trees():
            for node in ast.walk(tree):
                if isinstance(node, ast.Attribute) and isinstance(node.ctx, ast.Store):
                    self.assertNotIn(node.attr, own, (path, node.lineno))

    def test_classes_have_no_methods_but_their_beginning(self):
        for path, tree in trees():
            for node in ast.walk(tree):
                if isinstance(node, ast.ClassDef):
                    self.assertIn(node, tree.body)
                    rows = [row for row in node.body if not isinstance(row, ast.Expr)]
                    self.assertEqual([row.name for row in rows], ["__init__"], (path, node.name))

    def test_is_stands_beside_none_alone(self):
        for path, tree in trees():
            for node in ast.walk(tree):
                if isinstance(node, ast.Compare) and isinstance(node.ops[0], (ast.Is, ast.IsNot)):
                    self.assertIsNone(node.comparators[0].value, (path, node.lineno))

    def test_the_program_prints_reads_and_imports_nothing(self):
        for path, tree in trees():
            for node in ast.walk(tree):
                if isinstance(node, ast.ImportFrom):
                    self.assertTrue(node.module.startswith("wordhold."), path)


if __name__ == "__main__":
    unittest.main()
