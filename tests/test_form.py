"""The form of the package's files, as far as a short look can tell it."""

import ast
import builtins
import pathlib
import re
import unittest

PACKAGE = pathlib.Path(__file__).resolve().parent.parent / "steploft"
BARRED = re.compile(
    r"\b(type|typing|typing_extensions|enum|Enum|IntEnum|StrEnum|Flag|IntFlag|Generic|Protocol|ABC|ABCMeta|namedtuple"
    r"|NamedTuple|TypedDict|TYPE_CHECKING|abstractmethod)\b|dataclass|overload|contextmanager")

ALLOWED_BUILTINS = set(
    "len range enumerate zip min max sum abs sorted reversed int str bool bytes list tuple dict set frozenset"
    " isinstance ord repr any all divmod Exception ValueError TypeError KeyError IndexError LookupError"
    " ZeroDivisionError ArithmeticError OverflowError RuntimeError NotImplementedError AttributeError"
    " StopIteration super".split())
BUILTIN_METHODS = set(
    "append clear copy count endswith extend find get index insert isalnum isalpha isdigit islower isspace isupper"
    " items join keys ljust lower lstrip partition pop remove replace reverse rfind rjust rpartition rsplit rstrip"
    " setdefault split splitlines startswith strip update upper values zfill bit_length add discard".split())
BARRED_NAMES = set(
    "register mro elements open input version_info with_traceback add_note compile copyright credits delattr dir eval"
    " exec exit gc getattr globals hasattr help id importlib license locals os quit setattr vars sys format".split())
BARRED_NODES = (ast.Global, ast.AsyncFunctionDef, ast.AsyncFor, ast.AsyncWith, ast.Await, ast.Div, ast.MatMult)


def files():
    return sorted(PACKAGE.rglob("*.py"))


class Form(unittest.TestCase):
    def test_files_and_lines(self):
        self.assertTrue(files())
        for path in files():
            text = path.read_bytes().decode("ascii")
            self.assertIsNone(re.search("[^ -~\n]", text), path)
            self.assertIsNone(BARRED.search(text), path)
            lines = text.splitlines()
            self.assertLessEqual(len(lines), 400, path)
            self.assertLessEqual(max(map(len, lines)), 120, path)

    def test_functions_are_short(self):
        for path in files():
            for node in ast.walk(ast.parse(path.read_text())):
                if isinstance(node, ast.FunctionDef):
                    self.assertLessEqual(node.end_lineno - node.lineno + 1, 40, (path, node.name))

    def test_imports_are_the_packages_own_and_used(self):
        for path in files():
            tree = ast.parse(path.read_text())
            used = {node.id for node in ast.walk(tree) if isinstance(node, ast.Name)}
            for node in ast.walk(tree):
                self.assertNotIsInstance(node, ast.Import, path)
                if isinstance(node, ast.ImportFrom):
                    self.assertTrue(node.module.startswith("steploft."), path)
                    for name in node.names:
                        self.assertIn(name.name, used, path)

    def test_no_name_has_two_meanings(self):
        for path in files():
            tree = ast.parse(path.read_text())
            taken = {name.name for node in ast.walk(tree) if isinstance(node, ast.ImportFrom) for name in node.names}
            taken |= {node.name for node in ast.walk(tree) if isinstance(node, ast.ClassDef)}
            bound = [node.arg for node in ast.walk(tree) if isinstance(node, ast.arg)]
            names = [node for node in ast.walk(tree) if isinstance(node, ast.Name)]
            bound += [node.id for node in names if isinstance(node.ctx, ast.Store)]
            functions = [node.name for node in tree.body if isinstance(node, ast.FunctionDef)]
            self.assertEqual(len(functions), len(set(functions)), path)
            for name in bound + functions:
                self.assertNotIn(name, taken, path)
                self.assertFalse(hasattr(builtins, name), (path, name))
                self.assertNotIn(name, BARRED_NAMES, path)

    def test_builtins_and_methods_are_allowed_ones(self):
        trees = {path: ast.parse(path.read_text()) for path in files()}
        methods = {node.name for tree in trees.values() for each in ast.walk(tree) if isinstance(each, ast.ClassDef)
                   for node in each.body if isinstance(node, ast.FunctionDef)}
        stored = {node.attr for tree in trees.values() for node in ast.walk(tree)
                  if isinstance(node, ast.Attribute) and isinstance(node.ctx, ast.Store)}
        self.assertFalse(methods & stored)
        for path, tree in trees.items():
            for node in ast.walk(tree):
                if isinstance(node, ast.Name) and hasattr(builtins, node.id):
                    self.assertIn(node.id, ALLOWED_BUILTINS, path)
                if isinstance(node, ast.Attribute):
                    self.assertIn(node.attr, methods | stored | BUILTIN_METHODS, path)

    def test_literals_and_signs(self):
        for path in files():
            for node in ast.walk(ast.parse(path.read_text())):
                self.assertNotIsInstance(node, BARRED_NODES, path)
                if isinstance(node, ast.Constant):
                    self.assertNotIsInstance(node.value, (float, complex), path)
                    self.assertNotIn("%", node.value if isinstance(node.value, str) else "", path)
                if isinstance(node, ast.Compare) and isinstance(node.ops[0], (ast.Is, ast.IsNot)):
                    self.assertIn(node.comparators[0].value, (None, True, False), path)

    def test_no_two_files_import_from_each_other(self):
        needed = {}
        for path in files():
            tree = ast.parse(path.read_text())
            imports = [node for node in ast.walk(tree) if isinstance(node, ast.ImportFrom)]
            needed[path.stem] = {node.module.split(".")[1] for node in imports}
        while needed:
            free = [name for name in needed if not needed[name]]
            self.assertTrue(free, needed)
            needed = {name: needed[name] - set(free) for name in needed if name not in free}

    def test_no_name_begins_with_an_underscore(self):
        for path in files():
            for node in ast.walk(ast.parse(path.read_text())):
                if isinstance(node, ast.Name):
                    self.assertFalse(node.id.startswith("_"), (path, node.id))


if __name__ == "__main__":
    unittest.main()
