"""What of ../shared/LANGUAGE.md can be seen file by file: sizes, signs, imports and names."""

import ast
import builtins
import pathlib
import unittest

PACKAGE = pathlib.Path(__file__).resolve().parent.parent / "boatbridge"
FILES = sorted(PACKAGE.rglob("*.py"))

LIBRARY = {
    "heapq": {"heappush", "heappop", "heapify", "heapreplace", "heappushpop"},
    "math": {"gcd", "lcm", "isqrt", "comb", "perm", "factorial"},
    "itertools": {
        "product", "combinations", "permutations", "chain", "accumulate", "pairwise", "islice", "zip_longest",
    },
    "collections": {"defaultdict"},
    "__future__": {"annotations"},
}

BUILTINS = set("""
    len range enumerate zip min max sum abs sorted reversed int str bool bytes list tuple dict set frozenset
    isinstance ord repr any all divmod pow getattr hasattr setattr iter next map super property staticmethod
    classmethod Exception ValueError TypeError KeyError IndexError LookupError ZeroDivisionError
    ArithmeticError OverflowError RuntimeError NotImplementedError AttributeError StopIteration NotImplemented
""".split())

DOUBLE_UNDERSCORES = set("""
    __init__ __eq__ __repr__ __str__ __len__ __enter__ __exit__ __call__ __iter__ __lt__ __le__ __gt__ __ge__
    __ne__ __add__ __sub__ __mul__ __floordiv__ __mod__ __pow__ __and__ __or__ __xor__ __lshift__ __rshift__
    __neg__ __pos__ __invert__ __abs__ __bool__ __contains__ __getitem__ __setitem__
""".split())

BARRED_NODES = (
    ast.Import, ast.Global, ast.AsyncFunctionDef, ast.AsyncFor, ast.AsyncWith, ast.Await, ast.Div,
)


def nodes(file):
    return list(ast.walk(ast.parse(file.read_text(encoding="utf-8"))))


def functions(file):
    return [node for node in nodes(file) if isinstance(node, ast.FunctionDef)]


class LanguageTest(unittest.TestCase):
    def test_the_folder_holds_python_files_alone(self):
        self.assertIn(PACKAGE / "__init__.py", FILES)
        for path in PACKAGE.rglob("*"):
            if "__pycache__" not in path.parts and not path.is_dir():
                self.assertRegex(path.name, r"\A[a-z0-9_]+\.py\Z")

    def test_sizes(self):
        for file in FILES:
            with self.subTest(file.name):
                lines = file.read_text(encoding="utf-8").splitlines()
                self.assertLessEqual(len(lines), 399)
                self.assertLessEqual(max(len(line) for line in lines), 120)
                for node in functions(file):
                    self.assertLessEqual(node.end_lineno - node.lineno + 1, 40, node.name)

    def test_signs(self):
        for file in FILES:
            with self.subTest(file.name):
                self.assertRegex(file.read_bytes().decode("utf-8"), r"\A[ -~\n]*\Z")

    def test_imports(self):
        own = {"boatbridge." + file.stem for file in FILES}
        for file in FILES:
            for node in nodes(file):
                if isinstance(node, ast.ImportFrom):
                    with self.subTest(file.name, module=node.module):
                        self.assertEqual(node.level, 0)
                        if node.module not in own:
                            self.assertLessEqual({name.name for name in node.names}, LIBRARY[node.module])

    def test_statements_and_values_left_out(self):
        for file in FILES:
            for node in nodes(file):
                with self.subTest(file.name, line=getattr(node, "lineno", None)):
                    self.assertNotIsInstance(node, BARRED_NODES)
                    value = node.value if isinstance(node, ast.Constant) else None
                    self.assertNotIsInstance(value, (float, complex))
                    self.assertNotIn("%", value if isinstance(value, str) else "")

    def test_builtins(self):
        for file in FILES:
            for node in nodes(file):
                with self.subTest(file.name, line=getattr(node, "lineno", None)):
                    if isinstance(node, ast.Name) and hasattr(builtins, node.id):
                        self.assertIn(node.id, BUILTINS)
                        self.assertIsInstance(node.ctx, ast.Load)
                    if isinstance(node, ast.arg):
                        self.assertFalse(hasattr(builtins, node.arg))

    def test_double_underscore_methods(self):
        for file in FILES:
            for node in functions(file):
                if node.name.startswith("__"):
                    with self.subTest(file.name, line=node.lineno):
                        self.assertIn(node.name, DOUBLE_UNDERSCORES)

    def test_modules_run_nothing(self):
        told = (ast.ImportFrom, ast.FunctionDef, ast.ClassDef, ast.Assign)
        for file in FILES:
            for node in ast.parse(file.read_text(encoding="utf-8")).body:
                with self.subTest(file.name, line=node.lineno):
                    if not (isinstance(node, ast.Expr) and isinstance(node.value, ast.Constant)):
                        self.assertIsInstance(node, told)


if __name__ == "__main__":
    unittest.main()
