"""The rules of the language that are easily seen; the others are for the reader."""

import ast
import pathlib
import re
import unittest

FOLDER = pathlib.Path(__file__).resolve().parent.parent / "keptcalls"
FILES = sorted(path for path in FOLDER.rglob("*") if "__pycache__" not in path.parts and path.is_file())
BUILTINS = set("""len range enumerate zip min max sum abs sorted reversed int str bool list tuple dict set isinstance ord
    repr any all divmod pow Exception ValueError TypeError KeyError IndexError LookupError iter next map property
    staticmethod classmethod super NotImplemented""".split())
METHODS = set("""append clear copy count endswith extend find get index insert isalnum isalpha isdigit islower isspace
    isupper items join keys ljust lower lstrip partition pop remove replace reverse rfind rjust rpartition rsplit rstrip
    setdefault split splitlines startswith strip update upper values zfill bit_length""".split())
BARRED = set("""typing enum Enum namedtuple dataclass overload contextmanager abstractmethod ABC Protocol Generic register
    elements open input law mro eval exec compile globals locals vars dir id hash sys os""".split())
MODULE_LEVEL = (ast.ImportFrom, ast.FunctionDef, ast.ClassDef, ast.Assign, ast.Expr)
DUNDERS = ("__init__", "__eq__", "__repr__", "__str__", "__len__", "__call__", "__contains__", "__getitem__", "__setitem__",
           "__iter__", "__iadd__", "__enter__", "__exit__")
DECORATORS = ("property", "staticmethod", "classmethod")
# What is run by a sign, and changes nothing; so does what it calls.
QUIET = ("__eq__", "__len__", "__contains__", "__getitem__", "__iter__")
CHANGING = ("append", "clear", "extend", "insert", "pop", "remove", "reverse", "setdefault", "update", "sort")


def nodes(kind):
    for path in FILES:
        for node in ast.walk(ast.parse(path.read_text())):
            if isinstance(node, kind):
                yield path, node


def defined(tree):
    for node in tree.body:
        if isinstance(node, (ast.FunctionDef, ast.ClassDef)):
            yield node.name
        if isinstance(node, ast.Assign):
            yield from (target.id for target in node.targets)


def functions_by_name():
    """All functions and methods of the package, by their names."""
    found = {}
    for path, node in nodes(ast.FunctionDef):
        found.setdefault(node.name, []).append(node)
    return found


def decorators(node):
    return [ast.unparse(decorator) for decorator in node.decorator_list]


def called_by(node):
    """The names of what a function calls, of the properties that it may read among them."""
    for one in ast.walk(node):
        if isinstance(one, ast.Call):
            yield one.func.attr if isinstance(one.func, ast.Attribute) else one.func.id


class TestLanguage(unittest.TestCase):
    def test_files(self):
        self.assertTrue(FILES)
        for path in FILES:
            text = path.read_text()
            self.assertRegex(path.name, "^[a-z0-9_]+[.]py$")
            self.assertRegex(text, "\\A[ -~\n]*\\Z", path)
            self.assertLess(len(text.splitlines()), 400)
            self.assertLessEqual(max(len(line) for line in text.splitlines()), 120)
            for node in ast.walk(ast.parse(text)):
                if isinstance(node, ast.Constant) and isinstance(node.value, str):
                    self.assertNotIn("%", node.value)

    def test_module_level(self):
        for path in FILES:
            for at, node in enumerate(ast.parse(path.read_text()).body):
                self.assertIsInstance(node, MODULE_LEVEL, path)
                if isinstance(node, ast.Expr):
                    self.assertEqual((at, type(node.value.value)), (0, str))

    def test_imports(self):
        for path, node in nodes((ast.Import, ast.ImportFrom)):
            self.assertIsInstance(node, ast.ImportFrom, path)
            self.assertEqual(node.level, 0)
            self.assertRegex(node.module, "^keptcalls[.][a-z]+$")
            source = FOLDER / (node.module.split(".")[1] + ".py")
            for name in node.names:
                self.assertIn(name.name, list(defined(ast.parse(source.read_text()))))
                self.assertIsNone(name.asname)

    def test_functions(self):
        for path, node in nodes(ast.FunctionDef):
            self.assertLessEqual(node.end_lineno - node.lineno + 1, 40, node.name)
            for decorator in node.decorator_list:
                self.assertIn(ast.unparse(decorator).split(".")[-1], DECORATORS + ("setter",))

    def test_builtins_and_names(self):
        import builtins
        for path, node in nodes((ast.Name, ast.arg, ast.FunctionDef)):
            name = getattr(node, "id", None) or getattr(node, "arg", None) or node.name
            self.assertNotIn(name, BARRED, path)
            if name in dir(builtins) and name != "_" and not (isinstance(node, ast.FunctionDef) and name in DUNDERS):
                self.assertIn(name, BUILTINS, path)
                self.assertTrue(isinstance(node, ast.Name) and isinstance(node.ctx, ast.Load), (path, name))

    def test_words(self):
        for path in FILES:
            for word in re.findall("[A-Za-z_]+", path.read_text()):
                self.assertNotIn(word, ("_wall", "_WallAttr", "typing", "enum", "dataclass", "contextmanager"))

    def test_methods(self):
        own = {member.name for path, node in nodes(ast.ClassDef) for member in node.body
               if isinstance(member, ast.FunctionDef)}
        self.assertEqual(own & METHODS, set())
        for path, node in nodes(ast.Call):
            if isinstance(node.func, ast.Attribute):
                self.assertIn(node.func.attr, METHODS | own, path)

    def test_methods_and_attributes_have_different_names(self):
        own = {member.name for path, node in nodes(ast.ClassDef) for member in node.body
               if isinstance(member, ast.FunctionDef) and "property" not in decorators(member)
               and not any(word.endswith(".setter") for word in decorators(member))}
        for path, node in nodes(ast.Attribute):
            self.assertNotIn(node.attr, BARRED, path)
            if isinstance(node.ctx, ast.Store):
                self.assertNotIn(node.attr, own | METHODS, path)

    def test_names_of_imports_and_classes_mean_nothing_else(self):
        for path in FILES:
            tree = ast.parse(path.read_text())
            taken = {node.name for node in tree.body if isinstance(node, ast.ClassDef)}
            taken |= {name.name for node in tree.body if isinstance(node, ast.ImportFrom) for name in node.names}
            for node in ast.walk(tree):
                if isinstance(node, ast.arg):
                    self.assertNotIn(node.arg, taken, path)
                if isinstance(node, ast.Name) and isinstance(node.ctx, ast.Store):
                    self.assertNotIn(node.id, taken, path)

    def test_imports_go_one_way(self):
        found = {path.stem: {node.module.split(".")[1] for node in ast.parse(path.read_text()).body
                             if isinstance(node, ast.ImportFrom)} for path in FILES}
        while found:
            last = [name for name, others in found.items() if not others & set(found)]
            self.assertTrue(last, found)
            found = {name: others for name, others in found.items() if name not in last}

    def test_double_underscore_methods(self):
        for path, node in nodes(ast.FunctionDef):
            if node.name.startswith("__"):
                self.assertIn(node.name, DUNDERS, path)
                self.assertEqual(node.decorator_list, [])
            if node.name == "__len__":
                for one in ast.walk(node):
                    if isinstance(one, ast.Return):
                        self.assertEqual(ast.unparse(one.value.func), "len")
            if node.name == "__iter__":
                self.assertEqual([type(row) for row in node.body], [ast.Raise])
            if node.name == "__exit__":
                for row in node.body:
                    self.assertIsInstance(row, ast.Assign)
                    self.assertEqual([type(side) for side in row.targets + [row.value]], [ast.Attribute] * 2)

    def test_what_is_run_by_a_sign_changes_nothing(self):
        every = functions_by_name()
        quiet = [node for name, some in every.items() for node in some if name in QUIET or "property" in decorators(node)]
        self.assertEqual(len(quiet), 6)
        at = 0
        while at < len(quiet):
            for one in ast.walk(quiet[at]):
                self.assertNotIsInstance(one, (ast.AugAssign, ast.Delete, ast.Yield), quiet[at].name)
                if isinstance(one, (ast.Attribute, ast.Subscript)):
                    self.assertIsInstance(one.ctx, ast.Load, quiet[at].name)
            for name in called_by(quiet[at]):
                self.assertNotIn(name, CHANGING, quiet[at].name)
                quiet += [node for node in every.get(name, []) if node not in quiet]
            at += 1

    def test_classes(self):
        for path, node in nodes(ast.ClassDef):
            self.assertEqual(node.decorator_list, [])
            for row in node.body:
                self.assertIsInstance(row, (ast.FunctionDef, ast.Expr), path)
        # With "==" in the package nothing is sorted in place, and no error of Python's own is caught.
        for path, node in nodes((ast.Try, ast.Match, ast.Set)):
            self.fail(path)
        for path, node in nodes(ast.Call):
            if isinstance(node.func, ast.Attribute):
                self.assertNotEqual(node.func.attr, "sort")

    def test_statements_and_expressions(self):
        barred = (ast.AsyncFunctionDef, ast.Div, ast.GeneratorExp, ast.Global, ast.Lambda)
        for path, node in nodes(barred):
            self.assertIsInstance(node, ast.Lambda, path)
            self.assertEqual(len(node.args.args), 1)
        for path, node in nodes(ast.Constant):
            self.assertNotIsInstance(node.value, (float, complex), path)
        for path, node in nodes(ast.Compare):
            for operator, side in zip(node.ops, node.comparators):
                if isinstance(operator, (ast.Is, ast.IsNot)):
                    self.assertIn(ast.unparse(side), ("None", "True", "False"))
