"""The rules of the language that a look at the files can check: L1, L2, L8, L10, L14, L15, L25 and L27 in part."""

import ast
import builtins
import pathlib
import re
import unittest

PACKAGE = pathlib.Path(__file__).resolve().parent.parent / "folio"
LIBRARY = ("__future__", "heapq", "math", "itertools", "collections")
BUILTINS = """
    len range enumerate zip min max sum abs sorted reversed int str bool bytes list tuple dict set frozenset isinstance
    ord repr any all divmod pow getattr hasattr setattr iter next map super property staticmethod classmethod
    Exception ValueError TypeError KeyError IndexError LookupError ZeroDivisionError ArithmeticError OverflowError
    RuntimeError NotImplementedError AttributeError StopIteration NotImplemented
""".split()
METHODS = """
    append clear copy count endswith extend find get index insert isalnum isalpha isdigit islower isspace isupper items
    join keys ljust lower lstrip partition pop remove replace reverse rfind rjust rpartition rsplit rstrip setdefault
    split splitlines startswith strip update upper values zfill bit_length title capitalize swapcase casefold center
    expandtabs removeprefix removesuffix rindex isascii isdecimal isnumeric istitle isidentifier isprintable translate
    add discard sort format
""".split()


def files():
    return sorted(path for path in PACKAGE.rglob("*") if path.is_file())


def nodes(path, kinds):
    tree = ast.parse(path.read_text(encoding="utf-8"))
    return [node for node in ast.walk(tree) if isinstance(node, kinds)]


class LanguageTest(unittest.TestCase):
    def test_names_of_files(self):
        names = [path.relative_to(PACKAGE).as_posix() for path in files()]
        self.assertIn("__init__.py", names)
        for name in names:
            with self.subTest(name=name):
                self.assertRegex(name, r"\A([a-z][a-z0-9_]*/)*(__init__|__main__|[a-z][a-z0-9_]*)\.py\Z")
        self.assertLessEqual(len(names), 100)

    def test_characters(self):
        for path in files():
            with self.subTest(path=path.name):
                self.assertIsNone(re.search(rb"[^ -~\n]", path.read_bytes()))

    def test_sizes(self):
        for path in files():
            lines = path.read_text(encoding="utf-8").splitlines()
            with self.subTest(path=path.name):
                self.assertLessEqual(len(lines), 399)
                self.assertLessEqual(max(map(len, lines), default=0), 120)
            for node in nodes(path, ast.FunctionDef):
                with self.subTest(path=path.name, function=node.name):
                    self.assertLessEqual(node.end_lineno - node.lineno + 1, 40)

    def test_imports(self):
        for path in files():
            for node in nodes(path, (ast.Import, ast.ImportFrom)):
                with self.subTest(path=path.name, line=node.lineno):
                    if isinstance(node, ast.Import):
                        self.assertEqual(path.name, "__main__.py")
                        self.assertEqual([name.name for name in node.names], ["sys"])
                    else:
                        self.assertEqual(node.level, 0)
                        self.assertIn(node.module.split(".")[0], ("folio",) + LIBRARY)

    def test_builtins(self):
        for path in files():
            for node in nodes(path, (ast.Name, ast.arg)):
                name = node.id if isinstance(node, ast.Name) else node.arg
                if hasattr(builtins, name):
                    with self.subTest(path=path.name, line=node.lineno):
                        self.assertIsInstance(node, ast.Name)
                        self.assertIsInstance(node.ctx, ast.Load)
                        self.assertIn(name, BUILTINS)

    def test_methods(self):
        own = {node.name for path in files() for node in nodes(path, ast.FunctionDef)}
        for path in files():
            for node in nodes(path, ast.Call):
                if isinstance(node.func, ast.Attribute):
                    with self.subTest(path=path.name, line=node.lineno):
                        self.assertIn(node.func.attr, own | set(METHODS))

    def test_names_of_imports_and_classes(self):
        for path in files():
            taken = {node.name for node in nodes(path, ast.ClassDef)}
            taken |= {name.name for node in nodes(path, ast.ImportFrom) for name in node.names}
            for node in nodes(path, (ast.Name, ast.arg)):
                name = node.id if isinstance(node, ast.Name) else node.arg
                if isinstance(node, ast.arg) or isinstance(node.ctx, ast.Store):
                    with self.subTest(path=path.name, line=node.lineno):
                        self.assertNotIn(name, taken)

    def test_strings(self):
        for path in files():
            for node in nodes(path, ast.Constant):
                if isinstance(node.value, str):
                    with self.subTest(path=path.name, line=node.lineno):
                        self.assertNotIn("%", node.value)


if __name__ == "__main__":
    unittest.main()
