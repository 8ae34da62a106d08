"""The rules of the language that a look at the files can check: L1, L2, L10, L14 and L27."""

import ast
import pathlib
import re
import unittest

PACKAGE = pathlib.Path(__file__).resolve().parent.parent / "folio"
LIBRARY = ("__future__", "heapq", "math", "itertools", "collections")


def files():
    return sorted(path for path in PACKAGE.rglob("*") if path.is_file())


def nodes(path, kinds):
    tree = ast.parse(path.read_text(encoding="utf-8"))
    return [node for node in ast.walk(tree) if isinstance(node, kinds)]


class LanguageTest(unittest.TestCase):
    def test_names_of_files(self):
        names = [path.relative_to(PACKAGE).as_posix() for path in files()]
        self.assertIn("__init__.py", names)
        for name in names:
            with self.subTest(name=name):
                self.assertRegex(name, r"\A([a-z][a-z0-9_]*/)*(__init__|__main__|[a-z][a-z0-9_]*)\.py\Z")
        self.assertLessEqual(len(names), 100)

    def test_characters(self):
        for path in files():
            with self.subTest(path=path.name):
                self.assertIsNone(re.search(rb"[^ -~\n]", path.read_bytes()))

    def test_sizes(self):
        for path in files():
            lines = path.read_text(encoding="utf-8").splitlines()
            with self.subTest(path=path.name):
                self.assertLessEqual(len(lines), 399)
                self.assertLessEqual(max(map(len, lines), default=0), 120)
            for node in nodes(path, ast.FunctionDef):
                with self.subTest(path=path.name, function=node.name):
                    self.assertLessEqual(node.end_lineno - node.lineno + 1, 40)

    def test_imports(self):
        for path in files():
            for node in nodes(path, (ast.Import, ast.ImportFrom)):
                with self.subTest(path=path.name, line=node.lineno):
                    if isinstance(node, ast.Import):
                        self.assertEqual(path.name, "__main__.py")
                        self.assertEqual([name.name for name in node.names], ["sys"])
                    else:
                        self.assertEqual(node.level, 0)
                        self.assertIn(node.module.split(".")[0], ("folio",) + LIBRARY)

    def test_strings(self):
        for path in files():
            for node in nodes(path, ast.Constant):
                if isinstance(node.value, str):
                    with self.subTest(path=path.name, line=node.lineno):
                        self.assertNotIn("%", node.value)


if __name__ == "__main__":
    unittest.main()
