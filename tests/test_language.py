"""The rules of the subset that are plain to check, for every file of the package."""

import ast
import builtins
import pathlib
import unittest

FOLDER = pathlib.Path(__file__).resolve().parent.parent / "lookdepths"
BUILTINS = set(
    "len range enumerate zip min max sum abs sorted reversed int str bool bytes list tuple dict set frozenset isinstance"
    " ord repr any all divmod pow getattr hasattr setattr iter next map Exception ValueError TypeError KeyError IndexError"
    " LookupError ZeroDivisionError ArithmeticError OverflowError RuntimeError NotImplementedError AttributeError"
    " StopIteration NotImplemented property staticmethod classmethod super".split())
TAKES_A_LIST = {"any", "all", "min", "max", "sum", "sorted"}
NOT_ALLOWED = (ast.Global, ast.AsyncFunctionDef, ast.AsyncFor, ast.AsyncWith, ast.Await, ast.Div, ast.MatMult,
               ast.Yield, ast.YieldFrom, ast.GeneratorExp, ast.NamedExpr)
METHODS = set(
    "append clear copy count endswith extend find get index insert isalnum isalpha isdigit islower isspace isupper items"
    " join keys ljust lower lstrip partition pop remove replace reverse rfind rjust rpartition rsplit rstrip setdefault"
    " split splitlines startswith strip update upper values zfill bit_length removeprefix removesuffix isascii".split())
DOUBLE = {"__init__", "__eq__", "__enter__", "__exit__"}
NOT_NAMED = set(
    "register mro elements open input law version_info with_traceback add_note attrgetter breakpoint builtins compile"
    " copyright credits delattr dir eval exec exit gc getattr globals hasattr help id importlib license locals"
    " methodcaller os quit setattr super type vars sys format _record".split())


def bound_in(node):
    """The names that a function, a lambda or a comprehension binds."""
    names = [entry.arg for entry in ast.walk(node) if isinstance(entry, ast.arg)]
    names += [entry.id for entry in ast.walk(node) if isinstance(entry, ast.Name) and isinstance(entry.ctx, ast.Store)]
    return names + [entry.name for entry in ast.walk(node) if isinstance(entry, ast.ExceptHandler) and entry.name]


def imported_from(tree):
    """The pairs of the module and the names of each import."""
    return [(node.module, [entry.name for entry in node.names]) for node in tree.body if isinstance(node, ast.ImportFrom)]


class LanguageTest(unittest.TestCase):
    def setUp(self):
        self.files = [path for path in sorted(FOLDER.rglob("*")) if "__pycache__" not in path.parts]
        self.trees = {path.name: ast.parse(path.read_text()) for path in self.files}

    def nodes(self, kind):
        return [(name, node) for name, tree in self.trees.items() for node in ast.walk(tree) if isinstance(node, kind)]

    def defined(self, name):
        """The names of the functions and classes that a file defines."""
        return [node.name for node in self.trees[name].body if isinstance(node, (ast.FunctionDef, ast.ClassDef))]

    def test_files_and_characters(self):
        for path in self.files:
            self.assertEqual(path.suffix, ".py")
            text = path.read_text()
            self.assertTrue(all(sign == "\n" or " " <= sign <= "~" for sign in text), path.name)

    def test_sizes(self):
        for path in self.files:
            lines = path.read_text().splitlines()
            self.assertLess(len(lines), 400, path.name)
            self.assertLessEqual(max(map(len, lines)), 120, path.name)
        for name, node in self.nodes(ast.FunctionDef):
            self.assertLessEqual(node.end_lineno - node.lineno + 1, 40, (name, node.name))

    def test_imports_name_the_file_that_defines(self):
        self.assertEqual(self.nodes(ast.Import), [])
        for file, tree in self.trees.items():
            for module, names in imported_from(tree):
                home = module.removeprefix("lookdepths.") + ".py"
                self.assertIn(home, self.trees, file)
                constants = [target.id for node in self.trees[home].body if isinstance(node, ast.Assign)
                             for target in node.targets]
                self.assertTrue(set(names) <= set(self.defined(home) + constants), (file, module))
        for _, node in self.nodes(ast.ImportFrom):
            self.assertTrue(node.level == 0 and all(entry.asname is None for entry in node.names))

    def test_all_that_is_imported_is_used_and_no_file_imports_itself_by_others(self):
        imports = {}
        for file, tree in self.trees.items():
            used = [node.id for node in ast.walk(tree) if isinstance(node, ast.Name)]
            for module, names in imported_from(tree):
                self.assertTrue(set(names) <= set(used), (file, set(names) - set(used)))
            imports[file] = [module.removeprefix("lookdepths.") + ".py" for module, _ in imported_from(tree)]
        while imports:
            free = [file for file in imports if not set(imports[file]) & set(imports)]
            self.assertTrue(free, imports)
            imports = {file: imports[file] for file in imports if file not in free}

    def test_all_functions_are_used_or_of_the_interface(self):
        names = [node.id for _, node in self.nodes(ast.Name)] + [node.attr for _, node in self.nodes(ast.Attribute)]
        interface = (FOLDER.parent.parent / "shared" / "DOC.md")
        told = interface.read_text() if interface.exists() else None
        for name, node in self.nodes((ast.FunctionDef, ast.ClassDef)):
            if not node.name.startswith("__") and told is not None:
                self.assertTrue(node.name in names or f"`{node.name}" in told, (name, node.name))

    def test_builtins(self):
        for name, node in self.nodes(ast.Name):
            if isinstance(node.ctx, ast.Store):
                self.assertNotIn(node.id, vars(builtins), name)
            elif node.id in vars(builtins):
                self.assertIn(node.id, BUILTINS, name)
        for name, node in self.nodes((ast.FunctionDef, ast.arg)):
            self.assertNotIn(getattr(node, "name", None) or getattr(node, "arg", None), vars(builtins), name)

    def test_no_name_is_bound_twice(self):
        for file, tree in self.trees.items():
            top = self.defined(file) + [name for _, names in imported_from(tree) for name in names]
            self.assertEqual(len(top), len(set(top)), file)
            outer = {name for _, names in imported_from(tree) for name in names}
            outer |= {node.name for node in tree.body if isinstance(node, ast.ClassDef)}
            for node in ast.walk(tree):
                if isinstance(node, (ast.FunctionDef, ast.Lambda)):
                    self.assertEqual(set(bound_in(node)) & outer, set(), (file, node.lineno))
                if isinstance(node, ast.ClassDef):
                    methods = [entry.name for entry in node.body if isinstance(entry, ast.FunctionDef)]
                    self.assertEqual(len(methods), len(set(methods)), (file, node.name))

    def test_names(self):
        stored = [(name, node.id) for name, node in self.nodes(ast.Name)] + [
            (name, node.attr) for name, node in self.nodes(ast.Attribute)] + [
            (name, node.name) for name, node in self.nodes((ast.FunctionDef, ast.ClassDef))]
        for file, name in stored:
            self.assertNotIn(name, NOT_NAMED - {"copy"}, file)
            plain = name in DOUBLE | {"__class__", "__name__"} or not name.startswith("__")
            self.assertTrue(plain and not name.startswith(("_wall", "_pe_", "_enum_", "_cm_", "_lay_", "_law_")), name)

    def test_methods_are_own_or_allowed(self):
        own = {entry.name for _, node in self.nodes(ast.ClassDef) for entry in node.body
               if isinstance(entry, ast.FunctionDef)}
        for name, node in self.nodes(ast.Call):
            if isinstance(node.func, ast.Attribute):
                self.assertIn(node.func.attr, own | METHODS | DOUBLE, (name, node.lineno))
                if node.func.attr in METHODS:
                    self.assertEqual(node.keywords, [], (name, node.lineno))

    def test_no_name_is_a_method_and_an_attribute(self):
        methods = {entry.name for _, node in self.nodes(ast.ClassDef) for entry in node.body
                   if isinstance(entry, ast.FunctionDef)}
        stored = {node.attr for _, node in self.nodes(ast.Attribute) if isinstance(node.ctx, ast.Store)}
        self.assertEqual(methods & stored, set())
        builtin = {name for value in ["", 0, [], {}, set(), b"", ()] for name in dir(value)}
        self.assertEqual(stored & builtin, set())
        self.assertEqual({name for name in methods if name not in DOUBLE} & builtin - {"copy", "add"}, set())

    def test_sets_are_sorted_or_measured_on_the_spot(self):
        for name, tree in self.trees.items():
            parents = {child: node for node in ast.walk(tree) for child in ast.iter_child_nodes(node)}
            for node in ast.walk(tree):
                is_call = isinstance(node, ast.Call) and isinstance(node.func, ast.Name) and node.func.id == "set"
                if is_call or isinstance(node, (ast.Set, ast.SetComp)):
                    parent = parents[node]
                    self.assertIsInstance(parent, ast.Call, (name, node.lineno))
                    self.assertIn(parent.func.id, ["sorted", "len"], (name, node.lineno))

    def test_statements_and_values(self):
        self.assertEqual(self.nodes(NOT_ALLOWED), [])
        for name, node in self.nodes(ast.Constant):
            self.assertNotIsInstance(node.value, (float, complex), name)
            self.assertFalse(isinstance(node.value, str) and "%" in node.value, name)
        for name, node in self.nodes((ast.FunctionDef, ast.ClassDef)):
            self.assertEqual(node.decorator_list, [], (name, node.name))

    def test_powers_are_not_used_and_what_is_compares_is_none(self):
        self.assertEqual(self.nodes(ast.Pow), [])
        for name, node in self.nodes(ast.Compare):
            if any(isinstance(sign, (ast.Is, ast.IsNot)) for sign in node.ops):
                self.assertIsInstance(node.comparators[0], ast.Constant, (name, node.lineno))

    def test_lists_stand_in_any_and_all_as_a_class_compares(self):
        for name, node in self.nodes(ast.Call):
            if isinstance(node.func, ast.Name) and node.func.id in TAKES_A_LIST:
                self.assertFalse(any(isinstance(entry, ast.GeneratorExp) for entry in node.args), (name, node.lineno))

    def test_comprehensions_within_one_another_have_names_of_their_own(self):
        kinds = (ast.ListComp, ast.DictComp, ast.SetComp)
        for name, node in self.nodes(kinds):
            own = [entry.id for part in node.generators for entry in ast.walk(part.target) if isinstance(entry, ast.Name)]
            for inner in ast.walk(node):
                if isinstance(inner, kinds) and inner is not node:
                    for part in inner.generators:
                        names = [entry.id for entry in ast.walk(part.target) if isinstance(entry, ast.Name)]
                        self.assertEqual(set(own) & set(names) - {"_"}, set(), (name, node.lineno))

    def test_every_name_has_a_docstring(self):
        for name, node in self.nodes((ast.FunctionDef, ast.ClassDef)):
            self.assertTrue(node.name in DOUBLE or ast.get_docstring(node), (name, node.name))


if __name__ == "__main__":
    unittest.main()
