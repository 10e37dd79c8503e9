"""Some rules for the form of the package: files, imports, sizes, names."""
import ast
import pathlib
import re
import unittest

TOP = pathlib.Path(__file__).resolve().parent.parent / "asunmoved"
FILES = sorted(path for path in TOP.rglob("*") if path.is_file() and "__pycache__" not in path.parts)
BUILTINS = (
    "len range enumerate zip min max sum abs sorted reversed int str bool list tuple dict set isinstance ord repr "
    "any all divmod iter next map property classmethod staticmethod super ValueError IndexError KeyError LookupError "
    "OverflowError RuntimeError ArithmeticError TypeError NotImplemented"
).split()
NOT_USED = (
    "typing enum Enum Flag Generic Protocol ABC namedtuple NamedTuple TypedDict dataclass overload contextmanager "
    "Meta global async eval exec getattr setattr globals locals register mro elements"
).split()


def trees():
    for path in FILES:
        yield path, ast.parse(path.read_text(encoding="ascii"))


def module_name(path):
    return ".".join(path.relative_to(TOP.parent).with_suffix("").parts)


def defined(tree):
    names = set()
    for node in tree.body:
        if isinstance(node, (ast.FunctionDef, ast.ClassDef)):
            names.add(node.name)
        if isinstance(node, ast.Assign):
            names.update(target.id for target in node.targets)
    return names


class Layout(unittest.TestCase):
    def test_files(self):
        self.assertGreater(len(FILES), 3)
        for path in FILES:
            self.assertRegex(path.name, r"^[a-z_]+\.py$")
            self.assertTrue((path.parent / "__init__.py").exists())

    def test_signs_and_sizes(self):
        for path in FILES:
            text = path.read_text(encoding="ascii")
            self.assertLessEqual(text.count("\n"), 399, path)
            self.assertTrue(all(sign == "\n" or " " <= sign <= "~" for sign in text), path)
            self.assertNotIn("%", text, path)
            for line in text.split("\n"):
                self.assertLessEqual(len(line), 120, path)
                self.assertEqual(line, line.rstrip(), path)

    def test_functions_are_small(self):
        for path, tree in trees():
            for node in ast.walk(tree):
                if isinstance(node, (ast.FunctionDef, ast.Lambda)):
                    self.assertLessEqual(node.end_lineno - node.lineno + 1, 40, f"{path} {node.lineno}")

    def test_imports_name_the_file_that_defines(self):
        names = {module_name(path): defined(tree) for path, tree in trees()}
        for path, tree in trees():
            for node in ast.walk(tree):
                self.assertNotIsInstance(node, ast.Import)
                if isinstance(node, ast.ImportFrom):
                    self.assertIn(node, tree.body)
                    for alias in node.names:
                        self.assertIsNone(alias.asname)
                        self.assertIn(alias.name, names[node.module], f"{path} {node.lineno}")

    def test_statements(self):
        barred = (ast.Global, ast.AsyncFunctionDef, ast.Try, ast.Match, ast.Div)
        for path, tree in trees():
            for node in ast.walk(tree):
                self.assertNotIsInstance(node, barred, path)
                if isinstance(node, ast.Constant):
                    self.assertNotIsInstance(node.value, (float, complex), path)

    def test_decorators_and_words(self):
        for path, tree in trees():
            for node in ast.walk(tree):
                for decorator in getattr(node, "decorator_list", []):
                    self.assertIn(decorator.id, ("property", "classmethod", "staticmethod"), path)
            words = set(re.findall(r"[A-Za-z_]+", path.read_text(encoding="ascii")))
            self.assertEqual(words & set(NOT_USED), set(), path)

    def test_names_have_a_meaning(self):
        import builtins
        for path, tree in trees():
            for node in ast.walk(tree):
                if isinstance(node, ast.Name) and hasattr(builtins, node.id):
                    self.assertIn(node.id, BUILTINS, f"{path} {node.lineno}")
                    self.assertIsInstance(node.ctx, ast.Load, f"{path} {node.lineno}")
                if isinstance(node, ast.arg):
                    self.assertFalse(hasattr(builtins, node.arg), f"{path} {node.lineno}")

    def test_all_is_explained(self):
        for path, tree in trees():
            self.assertIsNotNone(ast.get_docstring(tree), path)
            for node in ast.walk(tree):
                if isinstance(node, (ast.FunctionDef, ast.ClassDef)) and not node.name.startswith("__"):
                    self.assertIsNotNone(ast.get_docstring(node), f"{path} {node.name}")
