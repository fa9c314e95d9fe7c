"""The form of the package's files, as far as a few simple looks tell it."""

import ast
import builtins
import pathlib
import re
import unittest

PACKAGE = pathlib.Path(__file__).resolve().parent.parent / "seerings"
BARRED = ("type", "typing", "enum", "Enum", "Protocol", "ABC", "namedtuple", "dataclass", "overload", "contextmanager")
LIBRARY = {"heapq", "math", "itertools", "collections"}
# The methods of texts, lists and dicts that the package calls.
METHODS = ("add", "append", "extend", "get", "index", "insert", "items", "join", "pop", "split", "startswith", "values",
           "count")


def sources():
    """Return a dict from the names of the package's files to their texts."""
    paths = sorted(path for path in PACKAGE.iterdir() if path.name != "__pycache__")
    return {path.name: path.read_text(encoding="utf-8") for path in paths}


class LanguageTest(unittest.TestCase):

    def test_the_folder_has_plain_files_only(self):
        self.assertIn("__init__.py", sources())
        for name in sources():
            self.assertRegex(name, r"\A[a-z0-9_]+\.py\Z")

    def test_sizes(self):
        for name, text in sources().items():
            rows = text.split("\n")
            self.assertLess(len(rows), 400, name)
            self.assertLessEqual(max(map(len, rows)), 120, name)
            for node in ast.walk(ast.parse(text)):
                if isinstance(node, ast.FunctionDef):
                    self.assertLessEqual(node.end_lineno - node.lineno + 1, 40, (name, node.name))

    def test_characters(self):
        for name, text in sources().items():
            self.assertIsNone(re.search(r"[^ -~\n]", text), name)

    def test_imports(self):
        for name, text in sources().items():
            for node in ast.walk(ast.parse(text)):
                self.assertNotIsInstance(node, ast.Import, name)
                if isinstance(node, ast.ImportFrom):
                    self.assertEqual(node.level, 0, name)
                    self.assertTrue(node.module.startswith("seerings.") or node.module in LIBRARY, name)

    def test_statements(self):
        barred = (ast.Global, ast.AsyncFunctionDef, ast.Await, ast.GeneratorExp, ast.Div)
        for name, text in sources().items():
            for node in ast.walk(ast.parse(text)):
                self.assertNotIsInstance(node, barred, name)
                self.assertFalse(isinstance(node, ast.Constant) and isinstance(node.value, float), name)

    def test_barred_words(self):
        for name, text in sources().items():
            for node in ast.walk(ast.parse(text)):
                for word in (getattr(node, "id", ""), getattr(node, "attr", ""), getattr(node, "name", "")):
                    self.assertNotIn(word, BARRED, name)

    def test_no_name_hides_another_one(self):
        for name, text in sources().items():
            tree = ast.parse(text)
            imported = [alias.name for node in ast.walk(tree) if isinstance(node, ast.ImportFrom) for alias in node.names]
            classes = [node.name for node in tree.body if isinstance(node, ast.ClassDef)]
            functions = [node.name for node in tree.body if isinstance(node, ast.FunctionDef)]
            tables = [node.targets[0].id for node in tree.body if isinstance(node, ast.Assign)]
            top = imported + classes + functions + tables
            self.assertEqual(sorted(set(top)), sorted(top), name)
            # Names of methods, too, are not those of builtins here.
            inner = {node.name for node in ast.walk(tree) if isinstance(node, ast.FunctionDef)}
            inner |= {node.arg for node in ast.walk(tree) if isinstance(node, ast.arg)}
            self.assertEqual(sorted(inner & set(dir(builtins))), [], name)
            own = {node.arg for node in ast.walk(tree) if isinstance(node, ast.arg)}
            for node in ast.walk(tree):
                if isinstance(node, ast.Name) and isinstance(node.ctx, ast.Store):
                    self.assertNotIn(node.id, dir(builtins), name)
                    if node.id not in tables:
                        own.add(node.id)
            self.assertEqual(sorted(own & set(imported + classes)), [], name)

    def test_properties_and_methods_are_no_attributes(self):
        trees = [ast.parse(text) for text in sources().values()]
        nodes = [node for tree in trees for node in ast.walk(tree)]
        methods = {part.name for node in nodes if isinstance(node, ast.ClassDef) for part in node.body
                   if isinstance(part, ast.FunctionDef)}
        stored = {node.attr for node in nodes if isinstance(node, ast.Attribute) and isinstance(node.ctx, ast.Store)}
        read = {node.attr for node in nodes if isinstance(node, ast.Attribute) and isinstance(node.ctx, ast.Load)}
        self.assertEqual(sorted(methods & stored), [])
        self.assertEqual(sorted(read - methods - stored - set(METHODS)), [])


if __name__ == "__main__":
    unittest.main()
