"""Those rules of the language for the package's files that are read off them easily."""

import ast
import pathlib
import unittest

LIBRARY = ("collections", "heapq", "itertools", "math")
TAKE_LISTS = ("all", "any", "max", "min", "sorted", "sum")
PACKAGE = pathlib.Path(__file__).resolve().parent.parent / "logcores"


def sources():
    return {path.name: path.read_bytes() for path in sorted(PACKAGE.glob("*.py"))}


def functions_in(tree):
    return [node for node in ast.walk(tree) if isinstance(node, ast.FunctionDef)]


class TheForm(unittest.TestCase):
    def test_the_package_is_one_folder_of_python_files(self):
        others = [path.name for path in PACKAGE.iterdir() if path.suffix != ".py" and path.name != "__pycache__"]
        self.assertEqual(others, [])
        self.assertIn("__init__.py", sources())

    def test_files_lines_and_functions_are_short(self):
        for name, source in sources().items():
            lines = source.decode("ascii").split("\n")
            self.assertLessEqual(len(lines), 400, name)
            self.assertLessEqual(max(len(line) for line in lines), 120, name)
            for made in functions_in(ast.parse(source)):
                self.assertLessEqual(made.end_lineno - made.lineno + 1, 40, f"{name}: {made.name}")

    def test_all_characters_are_plain(self):
        for name, source in sources().items():
            self.assertEqual([byte for byte in source if byte != 10 and not 32 <= byte <= 126], [], name)

    def test_imports_are_in_full_and_at_the_top(self):
        for name, source in sources().items():
            tree = ast.parse(source)
            for node in ast.walk(tree):
                self.assertNotIsInstance(node, ast.Import, name)
                if isinstance(node, ast.ImportFrom):
                    self.assertIn(node, tree.body, name)
                    self.assertEqual(node.level, 0, name)
                    self.assertTrue(node.module.startswith("logcores.") or node.module in LIBRARY, name)
                    self.assertEqual([one.asname for one in node.names if one.asname or one.name == "*"], [])

    def test_modules_hold_docstrings_imports_functions_and_classes(self):
        for name, source in sources().items():
            first, *rest = ast.parse(source).body
            self.assertIsInstance(first.value, ast.Constant, name)
            for node in rest:
                self.assertIsInstance(node, (ast.ImportFrom, ast.FunctionDef, ast.ClassDef, ast.Assign), name)

    def test_where_a_class_compares_these_take_lists(self):
        for name, source in sources().items():
            for node in ast.walk(ast.parse(source)):
                if isinstance(node, ast.Call) and isinstance(node.func, ast.Name) and node.func.id in TAKE_LISTS:
                    told = [given for given in node.args if isinstance(given, ast.GeneratorExp)]
                    self.assertEqual(told, [], name)


if __name__ == "__main__":
    unittest.main()
