"""Rules of the language of the package that can be read off its files: sizes, characters, imports, names."""

import ast
import builtins
import doctest
import pathlib
import unittest

FOLDER = pathlib.Path(__file__).resolve().parent.parent / "kindsunder"
LIBRARY = {"heapq", "math", "itertools", "__future__"}
BARRED_CALLS = {"eval", "exec", "open", "input", "getattr", "setattr", "delattr", "hash", "id", "type", "vars", "globals",
                "locals", "float", "complex", "object", "round", "pow", "filter"}
NODES = (ast.Global, ast.AsyncFunctionDef, ast.Await, ast.AsyncFor, ast.AsyncWith, ast.Div)


class Source(unittest.TestCase):
    def setUp(self):
        self.files = sorted(FOLDER.glob("*.py"))

    def trees(self):
        return [(path, ast.parse(path.read_text(encoding="utf-8"))) for path in self.files]

    def test_the_folder_holds_the_files_alone(self):
        self.assertIn("__init__.py", [path.name for path in self.files])
        others = [path.name for path in FOLDER.iterdir() if path not in self.files and path.name != "__pycache__"]
        self.assertEqual(others, [])

    def test_sizes(self):
        for path in self.files:
            lines = path.read_text(encoding="utf-8").split("\n")
            self.assertLessEqual(len(lines), 400, path.name)
            for at, line in enumerate(lines):
                self.assertLessEqual(len(line), 120, f"{path.name}:{at + 1}")
        for path, tree in self.trees():
            for node in ast.walk(tree):
                if isinstance(node, ast.FunctionDef):
                    self.assertLessEqual(node.end_lineno - node.lineno + 1, 40, f"{path.name}: {node.name}")

    def test_characters(self):
        for path in self.files:
            text = path.read_bytes()
            self.assertTrue(all(one == 10 or 32 <= one <= 126 for one in text), path.name)

    def test_imports(self):
        for path, tree in self.trees():
            for node in ast.walk(tree):
                self.assertNotIsInstance(node, ast.Import, path.name)
                if isinstance(node, ast.ImportFrom):
                    self.assertEqual(node.level, 0, path.name)
                    self.assertTrue(node.module in LIBRARY or node.module.startswith("kindsunder."), node.module)

    def test_statements_and_calls(self):
        for path, tree in self.trees():
            for node in ast.walk(tree):
                self.assertNotIsInstance(node, NODES, path.name)
                if isinstance(node, ast.Call) and isinstance(node.func, ast.Name):
                    self.assertNotIn(node.func.id, BARRED_CALLS, f"{path.name}:{node.lineno}")

    def test_names(self):
        """No parameter or variable has the name of an import, a class or a builtin; each import is used."""
        for path, tree in self.trees():
            imports = [one.name for node in tree.body if isinstance(node, ast.ImportFrom) for one in node.names]
            classes = [node.name for node in tree.body if isinstance(node, ast.ClassDef)]
            functions = [node.name for node in tree.body if isinstance(node, ast.FunctionDef)]
            self.assertEqual(len(imports + classes + functions), len(set(imports + classes + functions)), path.name)
            names = [node for node in ast.walk(tree) if isinstance(node, ast.Name)]
            self.assertEqual(set(imports) - {node.id for node in names}, set(), path.name)
            bound = [node.id for node in names if isinstance(node.ctx, ast.Store)]
            bound += [node.arg for node in ast.walk(tree) if isinstance(node, ast.arg)]
            self.assertEqual(set(bound) & (set(imports + classes) | set(dir(builtins))), set(), path.name)

    def test_methods_and_attributes(self):
        """No name is a method, or a property, and an attribute."""
        methods, attributes = set(), set()
        for path, tree in self.trees():
            for node in ast.walk(tree):
                if isinstance(node, ast.ClassDef):
                    methods |= {one.name for one in node.body if isinstance(one, ast.FunctionDef)}
                if isinstance(node, ast.Attribute) and isinstance(node.ctx, ast.Store):
                    attributes.add(node.attr)
        self.assertEqual(methods & attributes, set())

    def test_what_the_readme_shows(self):
        failed, looked = doctest.testfile(str(FOLDER.parent / "README.md"), module_relative=False)
        self.assertEqual((failed, looked > 5), (0, True))

    def test_no_file_imports_itself_by_way_of_others(self):
        above = {}
        for path, tree in self.trees():
            names = [node.module for node in ast.walk(tree) if isinstance(node, ast.ImportFrom)]
            above["kindsunder." + path.stem] = [name for name in names if name.startswith("kindsunder.")]
        for start in above:
            found = list(above[start])
            for name in found:
                found.extend([one for one in above.get(name, []) if one not in found])
            self.assertNotIn(start, found)


if __name__ == "__main__":
    unittest.main()
