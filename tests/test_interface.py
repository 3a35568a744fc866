"""DOC.md's interface, and what the package's own files may hold."""

import ast
import inspect
import pathlib
import unittest

import chunkshelf
from chunkshelf import cutting, notes, shelves, stock

FOLDER = pathlib.Path(chunkshelf.__file__).parent
FUNCTIONS = {
    cutting: {
        "weight": ["signs"],
        "few": ["count", "width", "reach"],
        "cuts": ["text", "width", "reach"],
        "pieces": ["text", "width", "reach"],
    },
    notes: {"written": ["shelf"], "read": ["text"]},
}
METHODS = {
    stock.Stock: {
        "__init__": [], "need": ["text"], "count": ["number"], "free": ["number"], "piece": ["number"], "numbers": [],
    },
    shelves.Shelf: {
        "__init__": ["width", "reach"],
        "keep": ["name", "text"],
        "drop": ["name", "number"],
        "change": ["name", "number", "start", "end", "text"],
        "text": ["name", "number"],
        "row": ["name", "number"],
        "versions": ["name"],
        "names": [],
        "pieces": [],
        "needed": ["number"],
        "signs": [],
        "altered": ["name", "one", "other"],
    },
}
# LANGUAGE.md L2: what may be imported beside modules of the package.
LIBRARY = ("heapq", "math", "itertools", "collections", "__future__")


class InterfaceTest(unittest.TestCase):
    def test_functions(self):
        for module, functions in FUNCTIONS.items():
            for name, arguments in functions.items():
                with self.subTest(name=name):
                    function = getattr(module, name)
                    self.assertTrue(inspect.isfunction(function))
                    self.assertEqual(function.__module__, module.__name__)
                    self.assertEqual(list(inspect.signature(function).parameters), arguments)

    def test_classes_and_their_own_methods(self):
        for kind, methods in METHODS.items():
            self.assertTrue(inspect.isclass(kind))
            for name, arguments in methods.items():
                with self.subTest(kind=kind, name=name):
                    # In the class itself, not only in a base class.
                    self.assertTrue(inspect.isfunction(vars(kind)[name]))
                    self.assertEqual(list(inspect.signature(vars(kind)[name]).parameters), ["self"] + arguments)
        self.assertEqual((stock.Stock.__module__, stock.Stock.__name__), ("chunkshelf.stock", "Stock"))
        self.assertEqual((shelves.Shelf.__module__, shelves.Shelf.__name__), ("chunkshelf.shelves", "Shelf"))

    def test_bounds(self):
        self.assertEqual((type(shelves.MOST_SIGNS), shelves.MOST_SIGNS), (int, 3000))
        self.assertEqual((type(shelves.MOST_VERSIONS), shelves.MOST_VERSIONS), (int, 100))

    def test_kinds_of_values_of_cutting(self):
        self.assertIs(type(cutting.weight("ab")), int)
        self.assertIs(type(cutting.few(3, 1, 1)), int)
        places = cutting.cuts("bacbac", 1, 1)
        parts = cutting.pieces("bacbac", 1, 1)
        self.assertEqual((type(places), {type(place) for place in places}), (list, {int}))
        self.assertEqual((type(parts), {type(part) for part in parts}), (list, {str}))


class SourcesTest(unittest.TestCase):
    """Promise [1], that nothing uses a clock, chance or files, and LANGUAGE.md L1, L2, L8, L10 and L14."""

    def sources(self):
        found = sorted(path for path in FOLDER.rglob("*.py"))
        self.assertIn(FOLDER / "cutting.py", found)
        return [(path, path.read_text(encoding="utf-8")) for path in found]

    def test_only_source_files(self):
        others = [
            path for path in FOLDER.rglob("*")
            if path.is_file() and path.suffix != ".py" and "__pycache__" not in path.parts
        ]
        self.assertEqual(others, [])

    def test_imports(self):
        for path, source in self.sources():
            for node in ast.walk(ast.parse(source)):
                self.assertNotIsInstance(node, ast.Import, path)
                if isinstance(node, ast.ImportFrom):
                    self.assertEqual(node.level, 0, path)
                    self.assertIn(node.module.split(".")[0], ("chunkshelf",) + LIBRARY, path)

    def test_nothing_is_opened_asked_or_run(self):
        barred = ("open", "input", "print", "exec", "eval", "compile", "id", "hash", "__import__", "globals", "vars")
        for path, source in self.sources():
            named = [node.id for node in ast.walk(ast.parse(source)) if isinstance(node, ast.Name)]
            self.assertEqual([name for name in named if name in barred], [], path)

    def test_sizes_and_signs(self):
        for path, source in self.sources():
            self.assertTrue(all(sign == "\n" or " " <= sign <= "~" for sign in source), path)
            self.assertLessEqual(len(source.splitlines()), 399, path)
            self.assertLessEqual(max(len(line) for line in source.splitlines()), 120, path)
            for node in ast.walk(ast.parse(source)):
                if isinstance(node, ast.FunctionDef):
                    self.assertLessEqual(node.end_lineno - node.lineno + 1, 40, (path, node.name))


if __name__ == "__main__":
    unittest.main()
