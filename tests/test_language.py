"""Rules of the language subset that can be seen in a file without running it.

This is no full check of the rules: it finds the slips that are easily made.
"""

import ast
import builtins
import io
import pathlib
import tokenize
import unittest

PACKAGE = pathlib.Path(__file__).resolve().parent.parent / "ramet"
FILES = sorted(PACKAGE.glob("**/*.py"))
LIBRARY = ("heapq", "math", "itertools", "collections", "__future__", "sys")
BUILTINS = (
    "len range enumerate zip min max sum abs sorted reversed int str bool bytes list tuple dict set frozenset "
    "isinstance ord repr any all divmod pow getattr hasattr setattr iter next map super property staticmethod "
    "classmethod Exception ValueError TypeError KeyError IndexError LookupError ZeroDivisionError ArithmeticError "
    "OverflowError RuntimeError NotImplementedError AttributeError StopIteration NotImplemented object float print"
).split()
NOT_USED = ("register", "mro", "elements", "open", "input", "law", "version_info", "with_traceback", "add_note")
WORDS_NOT_USED = (
    "type", "typing", "typing_extensions", "enum", "Enum", "IntEnum", "StrEnum", "Flag", "IntFlag", "Generic",
    "Protocol", "ABC", "ABCMeta", "namedtuple", "NamedTuple", "TypedDict", "TYPE_CHECKING", "abstractmethod",
    "dataclass", "overload", "contextmanager",
)


def each_tree():
    for path in FILES:
        yield path.name, ast.parse(path.read_text())


def names_given(node):
    """The names that a node gives to something."""
    if isinstance(node, ast.Name) and isinstance(node.ctx, (ast.Store, ast.Del)):
        return [node.id]
    if isinstance(node, (ast.FunctionDef, ast.ClassDef)):
        return [node.name]
    if isinstance(node, ast.arg):
        return [node.arg]
    if isinstance(node, ast.alias):
        return [node.asname or node.name]
    return []


def methods_in(tree):
    """The ids of the methods, which may have the name of a builtin."""
    found = set()
    for node in ast.walk(tree):
        if isinstance(node, ast.ClassDef):
            found.update(id(child) for child in node.body)
    return found


class LanguageTest(unittest.TestCase):
    def test_files_and_sizes(self):
        self.assertTrue(FILES)
        self.assertTrue(len(FILES) <= 100)
        self.assertTrue((PACKAGE / "__init__.py").is_file())
        for path in FILES:
            text = path.read_bytes()
            self.assertTrue(all(byte == 10 or 32 <= byte <= 126 for byte in text), path)
            lines = text.decode("ascii").split("\n")
            self.assertTrue(len(lines) <= 400, path)
            for line in lines:
                self.assertTrue(len(line) <= 120, (path, line))

    def test_functions_are_short(self):
        for name, tree in each_tree():
            for node in ast.walk(tree):
                if isinstance(node, ast.FunctionDef):
                    self.assertTrue(node.end_lineno - node.lineno < 40, (name, node.name))

    def test_imports(self):
        for name, tree in each_tree():
            for node in ast.walk(tree):
                if isinstance(node, ast.Import):
                    self.assertEqual((name, [alias.name for alias in node.names]), ("__main__.py", ["sys"]))
                if isinstance(node, ast.ImportFrom):
                    self.assertEqual(node.level, 0, name)
                    self.assertTrue(node.module in LIBRARY or node.module.startswith("ramet."), (name, node.module))
                    self.assertNotIn("*", [alias.name for alias in node.names])

    def test_no_two_files_import_from_each_other(self):
        imports = {}
        for name, tree in each_tree():
            nodes = [node for node in ast.walk(tree) if isinstance(node, ast.ImportFrom)]
            imports[name] = [node.module[6:] + ".py" for node in nodes if node.module.startswith("ramet.")]
        done = set()
        while len(done) < len(imports):
            free = [name for name in imports if name not in done and done.issuperset(imports[name])]
            self.assertTrue(free, sorted(set(imports) - done))
            done.update(free)

    def test_imports_and_private_names_are_used(self):
        for name, tree in each_tree():
            given = [alias.name for node in ast.walk(tree) if isinstance(node, ast.ImportFrom) for alias in node.names]
            given += [word for node in tree.body for word in names_given(node) if word.startswith("_")]
            used = {node.id for node in ast.walk(tree) if isinstance(node, ast.Name) and isinstance(node.ctx, ast.Load)}
            for word in given:
                self.assertIn(word, used, name)

    def test_module_level(self):
        allowed = (ast.ImportFrom, ast.Import, ast.FunctionDef, ast.ClassDef, ast.Assign, ast.Expr, ast.If)
        for name, tree in each_tree():
            bound = []
            for node in tree.body:
                self.assertIsInstance(node, allowed, name)
                if isinstance(node, ast.Expr):
                    self.assertIsInstance(node.value, ast.Constant, name)
                if isinstance(node, ast.Assign):
                    self.assertEqual([type(target) for target in node.targets], [ast.Name], name)
                    for part in ast.walk(node.value):
                        self.assertNotIsInstance(part, (ast.Call, ast.ListComp, ast.DictComp, ast.SetComp, ast.Set))
                    bound.append(node.targets[0].id)
                for child in [node] if not isinstance(node, (ast.ImportFrom, ast.Import)) else node.names:
                    if not isinstance(child, (ast.Assign, ast.Expr, ast.If)):
                        bound.extend(names_given(child))
            self.assertEqual(len(bound), len(set(bound)), name)

    def test_builtins(self):
        for name, tree in each_tree():
            methods = methods_in(tree)
            for node in ast.walk(tree):
                if isinstance(node, ast.Name) and isinstance(node.ctx, ast.Load) and hasattr(builtins, node.id):
                    self.assertIn(node.id, BUILTINS, (name, node.id))
                    if node.id == "print":
                        self.assertEqual(name, "__main__.py")
                if id(node) not in methods:
                    for given in names_given(node):
                        self.assertFalse(hasattr(builtins, given), (name, given))

    def test_names(self):
        for name, tree in each_tree():
            for node in ast.walk(tree):
                given = names_given(node) + ([node.attr] if isinstance(node, ast.Attribute) else [])
                for word in given:
                    self.assertNotIn(word, NOT_USED, name)
                    self.assertTrue(not word.startswith("__") or word.endswith("__"), (name, word))
                if isinstance(node, ast.Name) and isinstance(node.ctx, ast.Load):
                    self.assertNotEqual(node.id, "_", name)

    def test_words_that_do_not_occur(self):
        for path in FILES:
            for token in tokenize.generate_tokens(io.StringIO(path.read_text()).readline):
                if token.type == tokenize.NAME:
                    self.assertNotIn(token.string, WORDS_NOT_USED, path)

    def test_values_and_statements(self):
        barred = (ast.Global, ast.AsyncFunctionDef, ast.Await, ast.Div, ast.MatMult, ast.AsyncFor, ast.AsyncWith)
        for name, tree in each_tree():
            for node in ast.walk(tree):
                self.assertNotIsInstance(node, barred, name)
                if isinstance(node, ast.Constant):
                    self.assertNotIsInstance(node.value, (float, complex), name)
                    if isinstance(node.value, (str, bytes)):
                        self.assertNotIn("%", str(node.value), name)
                if isinstance(node, ast.ExceptHandler):
                    self.assertIsNotNone(node.type, name)
                if isinstance(node, ast.ClassDef):
                    self.assertEqual(node.decorator_list, [], name)


if __name__ == "__main__":
    unittest.main()
