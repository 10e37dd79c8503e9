"""Some rules for the form of the package: files, imports, sizes, names."""
import ast
import pathlib
import re
import unittest

TOP = pathlib.Path(__file__).resolve().parent.parent / "asunmoved"
FILES = sorted(path for path in TOP.rglob("*") if path.is_file() and "__pycache__" not in path.parts)
BUILTINS = (
    "len range enumerate zip min max sum abs sorted reversed int str bool list tuple dict set isinstance ord repr "
    "any all divmod iter next map property classmethod staticmethod super ValueError IndexError KeyError LookupError "
    "OverflowError RuntimeError ArithmeticError TypeError NotImplemented"
).split()
NOT_USED = (
    "typing enum Enum Flag Generic Protocol ABC namedtuple NamedTuple TypedDict dataclass overload contextmanager "
    "Meta global async eval exec getattr setattr globals locals register mro elements"
).split()


def trees():
    for path in FILES:
        yield path, ast.parse(path.read_text(encoding="ascii"))


def module_name(path):
    return ".".join(path.relative_to(TOP.parent).with_suffix("").parts)


def defined(tree):
    names = set()
    for node in tree.body:
        if isinstance(node, (ast.FunctionDef, ast.ClassDef)):
            names.add(node.name)
        if isinstance(node, ast.Assign):
            names.update(target.id for target in node.targets)
    return names


CHANGING = ("append", "extend", "insert", "pop", "remove", "clear", "reverse", "update", "setdefault", "add", "discard")


def spelled(node):
    """The text of a name or an attribute of one; None for anything else."""
    return ast.unparse(node) if isinstance(node, (ast.Name, ast.Attribute)) else None


def values_taken(node):
    """What a value can be: both sides of a choice, else the value itself."""
    if isinstance(node, ast.IfExp):
        return values_taken(node.body) + values_taken(node.orelse)
    if isinstance(node, ast.BoolOp):
        return [part for value in node.values for part in values_taken(value)]
    return [node]


def assigned_pairs(node):
    """The pairs of a target and a value in an assignment, also of several at once."""
    for target in node.targets:
        if isinstance(target, ast.Tuple) and isinstance(node.value, ast.Tuple):
            yield from zip(target.elts, node.value.elts)
        else:
            yield target, node.value


def same_things(function):
    """A dict from each name of a function to all names that can stand for the same list."""
    same = {}
    for node in ast.walk(function):
        if isinstance(node, ast.Assign):
            for target, value in assigned_pairs(node):
                for taken in values_taken(value):
                    one, two = spelled(target), spelled(taken)
                    if one and two:
                        joined = same.get(one, {one}) | same.get(two, {two})
                        same.update({name: joined for name in joined})
    return same


def changed_in(body):
    """The names of what is changed within some statements."""
    for statement in body:
        for node in ast.walk(statement):
            if isinstance(node, ast.Call) and isinstance(node.func, ast.Attribute) and node.func.attr in CHANGING:
                yield spelled(node.func.value)
            if isinstance(node, ast.Subscript) and isinstance(node.ctx, (ast.Store, ast.Del)):
                yield spelled(node.value)
            if isinstance(node, ast.AugAssign):
                yield spelled(node.target)


def walked(node):
    """The names of what a loop walks, also through enumerate, zip and items."""
    if isinstance(node, ast.Call):
        if isinstance(node.func, ast.Name) and node.func.id in ("enumerate", "zip", "reversed"):
            return [name for argument in node.args for name in walked(argument)]
        if isinstance(node.func, ast.Attribute) and node.func.attr in ("items", "keys", "values"):
            return walked(node.func.value)
    return [spelled(value) for value in values_taken(node) if spelled(value)]


def walked_and_changed(function):
    """The rows of the loops in a function that change what they walk, or what can be the same list."""
    same = same_things(function)
    for node in ast.walk(function):
        if isinstance(node, ast.For):
            changed = set(changed_in(node.body))
            if any(same.get(name, {name}) & changed for name in walked(node.iter)):
                yield node.lineno


WALKED_AND_CHANGED = """
def first(steps):
    last = [1]
    while last:
        reached = []
        for here in last:
            reached.append(here)
        last = reached

def second(self, one, other):
    for at, x in enumerate(self.rows):
        self.rows[at] = x
    for x in (one if other else self.rows):
        one += [x]

def third(rows):
    last, more = rows, []
    for k in rows.items():
        del last[k]

def right(last):
    while last:
        reached = []
        for here in list(last):
            reached.append(here)
        for here in last:
            found = [here]
            found.append(here)
        last = reached
"""


class Layout(unittest.TestCase):
    def test_no_loop_changes_what_it_walks(self):
        rows = {
            function.name: list(walked_and_changed(function)) for function in ast.parse(WALKED_AND_CHANGED).body
        }
        self.assertEqual(rows, {"first": [6], "second": [11, 13], "third": [18], "right": []})
        for path, tree in trees():
            for node in ast.walk(tree):
                if isinstance(node, ast.FunctionDef):
                    self.assertEqual(list(walked_and_changed(node)), [], f"{path} {node.name}")

    def test_files(self):
        self.assertGreater(len(FILES), 3)
        for path in FILES:
            self.assertRegex(path.name, r"^[a-z_]+\.py$")
            self.assertTrue((path.parent / "__init__.py").exists())

    def test_signs_and_sizes(self):
        for path in FILES:
            text = path.read_text(encoding="ascii")
            self.assertLessEqual(text.count("\n"), 399, path)
            self.assertTrue(all(sign == "\n" or " " <= sign <= "~" for sign in text), path)
            self.assertNotIn("%", text, path)
            for line in text.split("\n"):
                self.assertLessEqual(len(line), 120, path)
                self.assertEqual(line, line.rstrip(), path)

    def test_functions_are_small(self):
        for path, tree in trees():
            for node in ast.walk(tree):
                if isinstance(node, (ast.FunctionDef, ast.Lambda)):
                    self.assertLessEqual(node.end_lineno - node.lineno + 1, 40, f"{path} {node.lineno}")

    def test_imports_name_the_file_that_defines(self):
        names = {module_name(path): defined(tree) for path, tree in trees()}
        for path, tree in trees():
            for node in ast.walk(tree):
                self.assertNotIsInstance(node, ast.Import)
                if isinstance(node, ast.ImportFrom):
                    self.assertIn(node, tree.body)
                    for alias in node.names:
                        self.assertIsNone(alias.asname)
                        self.assertIn(alias.name, names[node.module], f"{path} {node.lineno}")

    def test_statements(self):
        barred = (ast.Global, ast.AsyncFunctionDef, ast.Match, ast.Div)
        for path, tree in trees():
            for node in ast.walk(tree):
                self.assertNotIsInstance(node, barred, path)
                if isinstance(node, ast.Constant):
                    self.assertNotIsInstance(node.value, (float, complex), path)

    def test_own_errors_alone_are_caught(self):
        own = set(defined(dict(trees())[TOP / "errors.py"]))
        for path, tree in trees():
            for node in ast.walk(tree):
                if isinstance(node, ast.Try):
                    self.assertEqual((node.orelse, node.finalbody), ([], []), path)
                if isinstance(node, ast.ExceptHandler):
                    names = node.type.elts if isinstance(node.type, ast.Tuple) else [node.type]
                    self.assertLessEqual({name.id for name in names}, own, f"{path} {node.lineno}")

    def test_decorators_and_words(self):
        for path, tree in trees():
            for node in ast.walk(tree):
                for decorator in getattr(node, "decorator_list", []):
                    self.assertIn(decorator.id, ("property", "classmethod", "staticmethod"), path)
            words = set(re.findall(r"[A-Za-z_]+", path.read_text(encoding="ascii")))
            self.assertEqual(words & set(NOT_USED), set(), path)

    def test_names_have_a_meaning(self):
        import builtins
        for path, tree in trees():
            for node in ast.walk(tree):
                if isinstance(node, ast.Name) and hasattr(builtins, node.id):
                    self.assertIn(node.id, BUILTINS, f"{path} {node.lineno}")
                    self.assertIsInstance(node.ctx, ast.Load, f"{path} {node.lineno}")
                if isinstance(node, ast.arg):
                    self.assertFalse(hasattr(builtins, node.arg), f"{path} {node.lineno}")

    def test_all_is_explained(self):
        for path, tree in trees():
            self.assertIsNotNone(ast.get_docstring(tree), path)
            for node in ast.walk(tree):
                if isinstance(node, (ast.FunctionDef, ast.ClassDef)) and not node.name.startswith("__"):
                    self.assertIsNotNone(ast.get_docstring(node), f"{path} {node.name}")
