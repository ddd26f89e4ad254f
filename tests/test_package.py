"""What holds of the package's files as texts: see ../shared/LANGUAGE.md."""

import ast
import pathlib
import unittest

FOLDER = pathlib.Path(__file__).resolve().parent.parent / "rentroll"

INTERFACE = {
    "errors.py": [
        "RentError", "BadDay", "BadFlat", "BadAmount", "NoLease", "Taken", "Full", "Done",
    ],
    "days.py": ["month_days", "month_of", "day_of"],
    "terms.py": ["pair_held", "held"],
    "rents.py": ["rent_on", "part", "owed"],
    "pledges.py": ["balance", "grown"],
    "rolls.py": ["Roll"],
    "reading.py": ["roll_of"],
}

# What each function of the interface takes, by name.
TAKES = {
    "month_days": ["year", "month"], "month_of": ["day"], "day_of": ["year", "month", "number"],
    "pair_held": ["terms", "day"], "held": ["terms", "day"], "rent_on": ["steps", "gauges", "day"],
    "part": ["rent", "day"], "owed": ["steps", "gauges", "first", "last"], "balance": ["moves", "day"],
    "grown": ["moves", "rates", "last"], "roll_of": ["letters"],
}

METHODS = {
    "let": ["flat", "first", "rent", "indexed"], "end": ["lease", "last"], "step": ["lease", "first", "rent"],
    "gauge": ["first", "number"], "rate": ["first", "hundredths"], "paid": ["lease", "day", "cents"],
    "kept": ["lease", "day", "cents"], "close": ["lease", "day"], "bill": ["day"], "many": [], "billed": [],
    "lease": ["number"], "tenant": ["flat", "day"], "owed": ["lease", "day"], "pledge": ["lease", "day"],
    "sent": ["lease"], "given": ["lease"], "letters": [],
}

# Of the library nothing else may be imported: so no clock, no chance and no files.
LIBRARY = {"__future__", "collections", "heapq", "itertools", "math"}

OUTSIDE = {"open", "input", "print", "eval", "exec", "compile", "globals", "id", "hash"}


def package_files():
    return sorted(FOLDER.glob("*.py"))


def tree_of(path):
    return ast.parse(path.read_text(encoding="utf-8"))


class PackageTest(unittest.TestCase):
    def test_interface_is_defined_where_it_is_listed(self):
        for name, listed in INTERFACE.items():
            rows = tree_of(FOLDER / name).body
            defined = [row.name for row in rows if isinstance(row, (ast.FunctionDef, ast.ClassDef))]
            for word in listed:
                with self.subTest(file=name, word=word):
                    self.assertEqual(defined.count(word), 1)

    def test_functions_take_what_is_listed(self):
        for name in INTERFACE:
            for row in tree_of(FOLDER / name).body:
                if isinstance(row, ast.FunctionDef) and row.name in TAKES:
                    with self.subTest(function=row.name):
                        self.assertEqual([told.arg for told in row.args.args], TAKES[row.name])

    def test_methods_of_the_roll_are_defined_in_it(self):
        rolls = [row for row in tree_of(FOLDER / "rolls.py").body if isinstance(row, ast.ClassDef)]
        self.assertEqual([(row.name, row.bases) for row in rolls], [("Roll", [])])
        defined = {row.name: row for row in rolls[0].body if isinstance(row, ast.FunctionDef)}
        for name, takes in METHODS.items():
            with self.subTest(method=name):
                self.assertEqual([told.arg for told in defined[name].args.args], ["self", *takes])

    def test_module_level_holds_no_list_and_no_dict(self):
        for path in package_files():
            for row in tree_of(path).body:
                with self.subTest(file=path.name, line=row.lineno):
                    self.assertIsInstance(row, (ast.Expr, ast.ImportFrom, ast.FunctionDef, ast.ClassDef, ast.Assign))
                    if isinstance(row, ast.Assign):
                        inner = [node for node in ast.walk(row) if isinstance(node, (ast.List, ast.Dict, ast.Set))]
                        self.assertEqual(inner, [])

    def test_no_numbers_with_a_point(self):
        for path in package_files():
            for node in ast.walk(tree_of(path)):
                with self.subTest(file=path.name):
                    self.assertNotIsInstance(node, ast.Div)
                    if isinstance(node, ast.Constant):
                        self.assertNotIsInstance(node.value, (float, complex))

    def test_imports_come_from_the_package_or_the_allowed_library(self):
        for path in package_files():
            for node in ast.walk(tree_of(path)):
                with self.subTest(file=path.name):
                    self.assertNotIsInstance(node, ast.Import)
                if isinstance(node, ast.ImportFrom):
                    with self.subTest(file=path.name, module=node.module):
                        self.assertEqual(node.level, 0)
                        top = node.module.split(".")[0]
                        self.assertTrue(top == "rentroll" or node.module in LIBRARY)

    def test_nothing_reaches_outside(self):
        for path in package_files():
            names = {node.id for node in ast.walk(tree_of(path)) if isinstance(node, ast.Name)}
            with self.subTest(file=path.name):
                self.assertEqual(sorted(names & OUTSIDE), [])

    def test_sizes_and_characters(self):
        for path in package_files():
            text = path.read_text(encoding="utf-8")
            lines = text.splitlines()
            with self.subTest(file=path.name):
                self.assertLessEqual(len(lines), 399)
                self.assertLessEqual(max(len(line) for line in lines), 120)
                self.assertTrue(all(sign == "\n" or " " <= sign <= "~" for sign in text))
            for node in ast.walk(tree_of(path)):
                if isinstance(node, ast.FunctionDef):
                    with self.subTest(file=path.name, function=node.name):
                        self.assertLessEqual(node.end_lineno - node.lineno + 1, 40)


if __name__ == "__main__":
    unittest.main()
