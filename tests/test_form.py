"""The form of the package's files: some of the rules that a program can see."""

import ast
import inspect
import pathlib
import unittest

from endtellers import discs, keeping, means, moments, polynomials, rows, serving, tellers

PACKAGE = pathlib.Path(__file__).resolve().parent.parent / "endtellers"
FILES = sorted(path for path in PACKAGE.rglob("*") if "__pycache__" not in path.parts)
BARRED = (
    ast.Div, ast.Pow, ast.AsyncFunctionDef, ast.Await, ast.Global, ast.Yield, ast.Lambda, ast.Set,
)
FROM_LIBRARY = {"math": {"gcd", "lcm", "comb"}}


class Form(unittest.TestCase):
    def test_files(self):
        for path in FILES:
            self.assertTrue(path.is_file() and path.suffix == ".py", path)
            text = path.read_text(encoding="utf-8")
            self.assertTrue(all(sign == "\n" or " " <= sign <= "~" for sign in text), path)
            lines = text.splitlines()
            self.assertLessEqual(len(lines), 399, path)
            self.assertLessEqual(max(len(line) for line in lines), 120, path)

    def test_functions_are_small_and_told(self):
        for path in FILES:
            for node in ast.walk(ast.parse(path.read_text(encoding="utf-8"))):
                if isinstance(node, ast.FunctionDef):
                    self.assertLessEqual(node.end_lineno - node.lineno + 1, 40, node.name)
                    self.assertEqual(node.decorator_list, [])
                    self.assertTrue(node.name == "__init__" or ast.get_docstring(node), node.name)

    def test_imports(self):
        for path in FILES:
            for node in ast.walk(ast.parse(path.read_text(encoding="utf-8"))):
                self.assertNotIsInstance(node, ast.Import)
                if isinstance(node, ast.ImportFrom):
                    names = {alias.name for alias in node.names}
                    self.assertTrue(all(alias.asname is None for alias in node.names))
                    if node.module in FROM_LIBRARY:
                        self.assertLessEqual(names, FROM_LIBRARY[node.module])
                    else:
                        self.assertTrue(node.module.startswith("endtellers."), node.module)

    def test_no_barred_signs_and_no_floats(self):
        for path in FILES:
            for node in ast.walk(ast.parse(path.read_text(encoding="utf-8"))):
                self.assertNotIsInstance(node, BARRED)
                if isinstance(node, ast.Constant):
                    self.assertNotIsInstance(node.value, (float, complex))

    def test_interface(self):
        listed = {
            polynomials: [("is_polynomial", ["value"]), ("value_at", ["polynomial", "fraction"]),
                          ("product", ["polynomial", "other"]), ("common_part", ["polynomial", "other"])],
            discs: [("disc_counts", ["polynomial", "fraction"]), ("least_size", ["polynomial", "many"]),
                    ("often_on", ["polynomial", "fraction"])],
            tellers: [("is_teller", ["value"]), ("plain", ["teller"]), ("are_alike", ["teller", "other"]),
                      ("is_fair", ["teller"]), ("behind", ["teller", "other"]),
                      ("mixed", ["teller", "other", "fraction"]), ("told", ["teller", "numbers"]),
                      ("weights_of", ["teller", "number"])],
            keeping: [("keeps_settling", ["teller"]), ("keeps_ends", ["teller"]),
                      ("keeps_share", ["teller", "fraction"]), ("straying", ["teller"])],
            serving: [(name, ["teller", "other"])
                      for name in ("serves_all", "serve_alike", "stray", "both", "either")],
            rows: [("is_row", ["value"]), ("plain_row", ["row"]), ("numbers_of", ["row", "number"]),
                   ("are_same_rows", ["row", "other"]), ("row_sum", ["row", "other"]),
                   ("row_times", ["row", "fraction"]), ("led_row", ["teller", "row"]), ("sums_of", ["row"]),
                   ("steps_of", ["row"]), ("end_of", ["row"]), ("settles_by", ["row", "fraction"]),
                   ("served_end", ["teller", "row"])],
            means: [("cesaro_means", ["row", "order", "number"]), ("cesaro_order", ["row"]), ("abel_end", ["row"]),
                    ("euler_row", ["row", "fraction"]), ("euler_end", ["row", "fraction"])],
            moments: [("error_within", ["weights", "top", "fraction"]), ("worst_place", ["weights", "top", "fraction"]),
                      ("best_weights", ["number", "top"]), ("least_error", ["number", "top"]),
                      ("alternating_within", ["weights", "fraction"]), ("alternating_place", ["weights", "fraction"]),
                      ("best_alternating", ["number"]), ("least_alternating", ["number"])],
        }
        for module, functions in listed.items():
            for name, parameters in functions:
                function = getattr(module, name)
                self.assertEqual(function.__module__, module.__name__)
                self.assertEqual(list(inspect.signature(function).parameters), parameters)


if __name__ == "__main__":
    unittest.main()
