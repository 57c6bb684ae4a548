"""The form of the package's files: some of the rules that a program can see."""

import ast
import builtins
import inspect
import pathlib
import unittest

from tests.listed import LISTED

PACKAGE = pathlib.Path(__file__).resolve().parent.parent / "endtellers"
FILES = sorted(path for path in PACKAGE.rglob("*") if "__pycache__" not in path.parts)
BARRED = (
    ast.Div, ast.Pow, ast.AsyncFunctionDef, ast.Await, ast.Global, ast.Yield, ast.Lambda, ast.Set,
)
FROM_LIBRARY = {"math": {"gcd", "lcm", "comb"}}


class Form(unittest.TestCase):
    def test_files(self):
        for path in FILES:
            self.assertTrue(path.is_file() and path.suffix == ".py", path)
            text = path.read_text(encoding="utf-8")
            self.assertTrue(all(sign == "\n" or " " <= sign <= "~" for sign in text), path)
            lines = text.splitlines()
            self.assertLessEqual(len(lines), 399, path)
            self.assertLessEqual(max(len(line) for line in lines), 120, path)

    def test_functions_are_small_and_told(self):
        for path in FILES:
            for node in ast.walk(ast.parse(path.read_text(encoding="utf-8"))):
                if isinstance(node, ast.FunctionDef):
                    self.assertLessEqual(node.end_lineno - node.lineno + 1, 40, node.name)
                    self.assertEqual(node.decorator_list, [])
                    self.assertTrue(node.name == "__init__" or ast.get_docstring(node), node.name)

    def test_imports(self):
        for path in FILES:
            for node in ast.walk(ast.parse(path.read_text(encoding="utf-8"))):
                self.assertNotIsInstance(node, ast.Import)
                if isinstance(node, ast.ImportFrom):
                    names = {alias.name for alias in node.names}
                    self.assertTrue(all(alias.asname is None for alias in node.names))
                    if node.module in FROM_LIBRARY:
                        self.assertLessEqual(names, FROM_LIBRARY[node.module])
                    else:
                        self.assertTrue(node.module.startswith("endtellers."), node.module)

    def test_names(self):
        # What is imported is used, and nothing within a function has the name of an import or of a builtin.
        for path in FILES:
            tree = ast.parse(path.read_text(encoding="utf-8"))
            names = [node for node in ast.walk(tree) if isinstance(node, ast.Name)]
            imported = [alias.name for node in tree.body if isinstance(node, ast.ImportFrom) for alias in node.names]
            self.assertLessEqual(set(imported), {node.id for node in names}, path)
            local = {node.id for node in names if isinstance(node.ctx, ast.Store)}
            local |= {node.arg for node in ast.walk(tree) if isinstance(node, ast.arg)}
            self.assertEqual(local & set(imported), set(), path)
            self.assertEqual({name for name in local if hasattr(builtins, name)}, set(), path)

    def test_no_files_import_from_each_other(self):
        told = {}
        for path in FILES:
            tree = ast.parse(path.read_text(encoding="utf-8"))
            modules = [node.module.split(".") for node in tree.body if isinstance(node, ast.ImportFrom)]
            told[path.stem] = {module[1] for module in modules if module[0] == "endtellers"}
        while told:
            free = [name for name in told if not told[name] & set(told)]
            self.assertNotEqual(free, [])
            for name in free:
                del told[name]

    def test_no_barred_signs_and_no_floats(self):
        for path in FILES:
            for node in ast.walk(ast.parse(path.read_text(encoding="utf-8"))):
                self.assertNotIsInstance(node, BARRED)
                if isinstance(node, ast.Constant):
                    self.assertNotIsInstance(node.value, (float, complex))

    def test_interface(self):
        for module, functions in LISTED.items():
            for name, arguments in functions.items():
                function = getattr(module, name)
                self.assertEqual(function.__module__, module.__name__)
                self.assertEqual(list(inspect.signature(function).parameters), list(arguments))


if __name__ == "__main__":
    unittest.main()
