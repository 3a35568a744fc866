"""DOC.md's interface as far as it has landed, and what the package's own files may hold."""

import ast
import inspect
import pathlib
import unittest

import chunkshelf
from chunkshelf import cutting

FOLDER = pathlib.Path(chunkshelf.__file__).parent
FUNCTIONS = {
    "weight": ["signs"],
    "few": ["count", "width", "reach"],
    "cuts": ["text", "width", "reach"],
    "pieces": ["text", "width", "reach"],
}
# LANGUAGE.md L2: what may be imported beside modules of the package.
LIBRARY = ("heapq", "math", "itertools", "collections", "__future__")


class CuttingInterfaceTest(unittest.TestCase):
    def test_names_and_arguments(self):
        for name, arguments in FUNCTIONS.items():
            with self.subTest(name=name):
                function = getattr(cutting, name)
                self.assertTrue(inspect.isfunction(function))
                self.assertEqual(function.__module__, "chunkshelf.cutting")
                self.assertEqual(list(inspect.signature(function).parameters), arguments)

    def test_kinds_of_values(self):
        self.assertIs(type(cutting.weight("ab")), int)
        self.assertIs(type(cutting.few(3, 1, 1)), int)
        places = cutting.cuts("bacbac", 1, 1)
        parts = cutting.pieces("bacbac", 1, 1)
        self.assertEqual((type(places), {type(place) for place in places}), (list, {int}))
        self.assertEqual((type(parts), {type(part) for part in parts}), (list, {str}))


class SourcesTest(unittest.TestCase):
    """Promise [1], that nothing uses a clock, chance or files, and LANGUAGE.md L1, L2, L8, L10 and L14."""

    def sources(self):
        found = sorted(path for path in FOLDER.rglob("*.py"))
        self.assertIn(FOLDER / "cutting.py", found)
        return [(path, path.read_text(encoding="utf-8")) for path in found]

    def test_only_source_files(self):
        others = [
            path for path in FOLDER.rglob("*")
            if path.is_file() and path.suffix != ".py" and "__pycache__" not in path.parts
        ]
        self.assertEqual(others, [])

    def test_imports(self):
        for path, source in self.sources():
            for node in ast.walk(ast.parse(source)):
                self.assertNotIsInstance(node, ast.Import, path)
                if isinstance(node, ast.ImportFrom):
                    self.assertEqual(node.level, 0, path)
                    self.assertIn(node.module.split(".")[0], ("chunkshelf",) + LIBRARY, path)

    def test_nothing_is_opened_asked_or_run(self):
        barred = ("open", "input", "print", "exec", "eval", "compile", "id", "hash", "__import__", "globals", "vars")
        for path, source in self.sources():
            named = [node.id for node in ast.walk(ast.parse(source)) if isinstance(node, ast.Name)]
            self.assertEqual([name for name in named if name in barred], [], path)

    def test_sizes_and_signs(self):
        for path, source in self.sources():
            self.assertTrue(all(sign == "\n" or " " <= sign <= "~" for sign in source), path)
            self.assertLessEqual(len(source.splitlines()), 399, path)
            self.assertLessEqual(max(len(line) for line in source.splitlines()), 120, path)
            for node in ast.walk(ast.parse(source)):
                if isinstance(node, ast.FunctionDef):
                    self.assertLessEqual(node.end_lineno - node.lineno + 1, 40, (path, node.name))


if __name__ == "__main__":
    unittest.main()
