"""The rules of the language that a short test can see (LANGUAGE.md)."""

import ast
import builtins
import re
import unittest
from pathlib import Path

PACKAGE = Path(__file__).resolve().parent.parent / "tellsnone"
FILES = sorted(PACKAGE.rglob("*.py"))
LIBRARY = {
    "heapq": "heappush heappop heapify heapreplace heappushpop",
    "math": "gcd lcm isqrt comb perm factorial",
    "itertools": "product combinations permutations chain accumulate pairwise islice zip_longest",
    "collections": "defaultdict",
}
BUILTINS = (
    "len range enumerate zip min max sum abs sorted reversed int str bool bytes list tuple dict set frozenset "
    "isinstance ord repr any all divmod pow getattr hasattr setattr iter next map super property staticmethod "
    "classmethod Exception ValueError TypeError KeyError IndexError LookupError ZeroDivisionError ArithmeticError "
    "OverflowError RuntimeError NotImplementedError AttributeError StopIteration NotImplemented"
).split()
METHODS = (
    "append clear copy count endswith extend find get index insert isalnum isalpha isdigit islower isspace isupper "
    "items join keys ljust lower lstrip partition pop remove replace reverse rfind rjust rpartition rsplit rstrip "
    "setdefault split splitlines startswith strip update upper values zfill bit_length add discard format"
).split()
UNUSED = (
    "register mro elements open input law version_info with_traceback add_note attrgetter breakpoint builtins "
    "compile copyright credits delattr dir eval exec exit gc globals help id importlib license locals methodcaller "
    "os quit type vars typing enum namedtuple abstractmethod dataclass"
).split()
BARRED = (
    ast.Global, ast.AsyncFunctionDef, ast.AsyncFor, ast.AsyncWith, ast.Await, ast.Div, ast.MatMult, ast.Import,
    ast.GeneratorExp, ast.AnnAssign,
)


def trees():
    for file in FILES:
        yield file, ast.parse(file.read_text("ascii"))


def nodes(kind):
    for file, tree in trees():
        for node in ast.walk(tree):
            if isinstance(node, kind):
                yield file.name, node


def own_functions():
    return {node.name for _, node in nodes(ast.FunctionDef)}


def bound_names():
    """All names that the package gives to something, with their files."""
    for file, node in nodes((ast.FunctionDef, ast.ClassDef, ast.arg, ast.Name)):
        if isinstance(node, ast.arg):
            yield file, node.arg
        elif not isinstance(node, ast.Name):
            yield file, node.name
        elif isinstance(node.ctx, ast.Store):
            yield file, node.id


class TestFiles(unittest.TestCase):

    def test_folder(self):
        self.assertIn("__init__.py", [file.name for file in FILES])
        for file in PACKAGE.rglob("*"):
            if "__pycache__" not in file.parts:
                self.assertRegex(file.name, r"\A[a-z0-9_]+\.py\Z")

    def test_characters_and_size(self):
        for file in FILES:
            text = file.read_bytes()
            self.assertTrue(all(sign == 10 or 32 <= sign <= 126 for sign in text), file)
            lines = text.splitlines()
            self.assertLessEqual(len(lines), 399, file)
            self.assertLessEqual(max(len(line) for line in lines), 120, file)

    def test_size_of_functions(self):
        for file, node in nodes(ast.FunctionDef):
            self.assertLessEqual(node.end_lineno - node.lineno + 1, 40, (file, node.name))

    def test_imports(self):
        inner = {}
        for file, node in nodes(ast.ImportFrom):
            self.assertEqual(node.level, 0)
            if node.module in LIBRARY:
                self.assertTrue({each.name for each in node.names} <= set(LIBRARY[node.module].split()), file)
                continue
            package, module = node.module.split(".")
            self.assertEqual(package, "tellsnone")
            inner.setdefault(file, set()).add(module + ".py")
            tree = ast.parse((PACKAGE / (module + ".py")).read_text())
            defined = [each.name for each in tree.body if isinstance(each, (ast.FunctionDef, ast.ClassDef))]
            for each in tree.body:
                if isinstance(each, ast.Assign):
                    defined.extend([target.id for target in each.targets])
            for each in node.names:
                self.assertIsNone(each.asname)
                self.assertIn(each.name, defined)
        while inner:
            free = [file for file in inner if not inner[file] & set(inner)]
            self.assertNotEqual(free, [], "files that import from each other")
            for file in free:
                del inner[file]

    def test_module_level(self):
        for file, tree in trees():
            for at, node in enumerate(tree.body):
                if isinstance(node, ast.Expr):
                    self.assertEqual(at, 0, file)
                    self.assertIsInstance(node.value.value, str)
                else:
                    self.assertIsInstance(node, (ast.ImportFrom, ast.FunctionDef, ast.ClassDef, ast.Assign), file)


class TestNames(unittest.TestCase):

    def test_barred_parts(self):
        for file, node in nodes(BARRED):
            self.fail((file, node.lineno))

    def test_builtins(self):
        bound = {name for _, name in bound_names()}
        for file, node in nodes(ast.Name):
            if node.id not in bound and node.id in vars(builtins):
                self.assertIn(node.id, BUILTINS, (file, node.lineno))

    def test_names_that_are_given(self):
        for file, name in bound_names():
            plain = re.fullmatch(r"_?[A-Za-z][A-Za-z0-9_]*|_", name)
            self.assertTrue(plain or re.fullmatch(r"__[a-z]+__", name), (file, name))
            self.assertNotIn(name, UNUSED, file)
            self.assertNotIn(name, vars(builtins), file)

    def test_names_of_classes_and_imports_mean_nothing_else(self):
        for file, tree in trees():
            taken = [node.name for node in tree.body if isinstance(node, ast.ClassDef)]
            for node in tree.body:
                if isinstance(node, ast.ImportFrom):
                    taken.extend([each.name for each in node.names])
            for node in ast.walk(tree):
                if isinstance(node, ast.arg):
                    self.assertNotIn(node.arg, taken, (file, node.lineno))
                elif isinstance(node, ast.Name) and isinstance(node.ctx, ast.Store):
                    self.assertNotIn(node.id, taken, (file, node.lineno))

    def test_methods_of_builtin_values(self):
        own = own_functions()
        for file, node in nodes(ast.Call):
            if isinstance(node.func, ast.Attribute):
                self.assertIn(node.func.attr, [*own, *METHODS], (file, node.lineno))

    def test_double_underscore_methods_are_not_called(self):
        for file, node in nodes(ast.Attribute):
            if node.attr.startswith("__"):
                self.assertEqual((node.attr, node.value.func.id), ("__init__", "super"), file)

    def test_strings(self):
        for file, node in nodes(ast.Constant):
            self.assertNotIsInstance(node.value, (float, complex), file)
            if isinstance(node.value, str):
                self.assertNotIn(chr(37), node.value, (file, node.lineno))
                self.assertNotIn(node.value, [word for word in UNUSED if word != "open"], (file, node.lineno))

    def test_errors_of_python_that_are_caught(self):
        barred = set(vars(builtins)) - {"KeyError", "ZeroDivisionError"}
        for file, node in nodes(ast.ExceptHandler):
            for kind in node.type.elts if isinstance(node.type, ast.Tuple) else [node.type]:
                self.assertIsInstance(kind, ast.Name, file)
                self.assertNotIn(kind.id, barred, (file, node.lineno))


if __name__ == "__main__":
    unittest.main()
