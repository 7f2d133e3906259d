"""The rules of the subset that are plain to check, for every file of the package."""

import ast
import builtins
import pathlib
import unittest

FOLDER = pathlib.Path(__file__).resolve().parent.parent / "lookdepths"
BUILTINS = set(
    "len range enumerate zip min max sum abs sorted reversed int str bool bytes list tuple dict set frozenset isinstance"
    " ord repr any all divmod pow getattr hasattr setattr iter next map Exception ValueError TypeError KeyError IndexError"
    " LookupError ZeroDivisionError ArithmeticError OverflowError RuntimeError NotImplementedError AttributeError"
    " StopIteration NotImplemented property staticmethod classmethod super".split())
LIBRARY = {"heapq", "math", "itertools", "collections"}
TAKES_A_LIST = {"any", "all", "min", "max", "sum", "sorted"}
NOT_ALLOWED = (ast.Global, ast.AsyncFunctionDef, ast.AsyncFor, ast.AsyncWith, ast.Await, ast.Div, ast.MatMult)


class LanguageTest(unittest.TestCase):
    def setUp(self):
        self.files = [path for path in sorted(FOLDER.rglob("*")) if "__pycache__" not in path.parts]
        self.trees = {path.name: ast.parse(path.read_text()) for path in self.files}

    def nodes(self, kind):
        return [(name, node) for name, tree in self.trees.items() for node in ast.walk(tree) if isinstance(node, kind)]

    def test_files_and_characters(self):
        for path in self.files:
            self.assertEqual(path.suffix, ".py")
            text = path.read_text()
            self.assertTrue(all(sign == "\n" or " " <= sign <= "~" for sign in text), path.name)

    def test_sizes(self):
        for path in self.files:
            lines = path.read_text().splitlines()
            self.assertLess(len(lines), 400, path.name)
            self.assertLessEqual(max(map(len, lines)), 120, path.name)
        for name, node in self.nodes(ast.FunctionDef):
            self.assertLessEqual(node.end_lineno - node.lineno + 1, 40, (name, node.name))

    def test_imports(self):
        self.assertEqual([name for name, _ in self.nodes(ast.Import) if name != "__main__.py"], [])
        for name, node in self.nodes(ast.ImportFrom):
            self.assertTrue(node.level == 0 and node.module.split(".")[0] in LIBRARY | {"lookdepths"}, (name, node.module))
            self.assertTrue(all(entry.asname is None and entry.name != "*" for entry in node.names), name)

    def test_builtins(self):
        for name, node in self.nodes(ast.Name):
            if isinstance(node.ctx, ast.Store):
                self.assertNotIn(node.id, vars(builtins), name)
            elif node.id in vars(builtins):
                self.assertIn(node.id, BUILTINS, name)
        for name, node in self.nodes((ast.FunctionDef, ast.arg)):
            self.assertNotIn(getattr(node, "name", None) or getattr(node, "arg", None), vars(builtins), name)

    def test_statements_and_values(self):
        self.assertEqual(self.nodes(NOT_ALLOWED), [])
        for name, node in self.nodes(ast.Constant):
            self.assertNotIsInstance(node.value, (float, complex), name)
            self.assertFalse(isinstance(node.value, str) and "%" in node.value, name)

    def test_lists_stand_in_any_and_all_as_a_class_compares(self):
        for name, node in self.nodes(ast.Call):
            if isinstance(node.func, ast.Name) and node.func.id in TAKES_A_LIST:
                self.assertFalse(any(isinstance(entry, ast.GeneratorExp) for entry in node.args), (name, node.lineno))


if __name__ == "__main__":
    unittest.main()
