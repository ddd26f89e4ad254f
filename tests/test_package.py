"""What holds of the package's files as texts: see ../shared/LANGUAGE.md."""

import ast
import pathlib
import unittest

FOLDER = pathlib.Path(__file__).resolve().parent.parent / "rentroll"

INTERFACE = {
    "errors.py": [
        "RentError", "BadDay", "BadFlat", "BadAmount", "NoLease", "Taken", "Full", "Done",
    ],
    "days.py": ["month_days", "month_of", "day_of"],
    "terms.py": ["pair_held", "held"],
}

# Of the library nothing else may be imported: so no clock, no chance and no files.
LIBRARY = {"__future__", "collections", "heapq", "itertools", "math"}

OUTSIDE = {"open", "input", "print", "eval", "exec", "compile", "globals", "id", "hash"}


def package_files():
    return sorted(FOLDER.glob("*.py"))


def tree_of(path):
    return ast.parse(path.read_text(encoding="utf-8"))


class PackageTest(unittest.TestCase):
    def test_interface_is_defined_where_it_is_listed(self):
        for name, listed in INTERFACE.items():
            rows = tree_of(FOLDER / name).body
            defined = [row.name for row in rows if isinstance(row, (ast.FunctionDef, ast.ClassDef))]
            for word in listed:
                with self.subTest(file=name, word=word):
                    self.assertEqual(defined.count(word), 1)

    def test_imports_come_from_the_package_or_the_allowed_library(self):
        for path in package_files():
            for node in ast.walk(tree_of(path)):
                with self.subTest(file=path.name):
                    self.assertNotIsInstance(node, ast.Import)
                if isinstance(node, ast.ImportFrom):
                    with self.subTest(file=path.name, module=node.module):
                        self.assertEqual(node.level, 0)
                        top = node.module.split(".")[0]
                        self.assertTrue(top == "rentroll" or node.module in LIBRARY)

    def test_nothing_reaches_outside(self):
        for path in package_files():
            names = {node.id for node in ast.walk(tree_of(path)) if isinstance(node, ast.Name)}
            with self.subTest(file=path.name):
                self.assertEqual(sorted(names & OUTSIDE), [])

    def test_sizes_and_characters(self):
        for path in package_files():
            text = path.read_text(encoding="utf-8")
            lines = text.splitlines()
            with self.subTest(file=path.name):
                self.assertLessEqual(len(lines), 399)
                self.assertLessEqual(max(len(line) for line in lines), 120)
                self.assertTrue(all(sign == "\n" or " " <= sign <= "~" for sign in text))
            for node in ast.walk(tree_of(path)):
                if isinstance(node, ast.FunctionDef):
                    with self.subTest(file=path.name, function=node.name):
                        self.assertLessEqual(node.end_lineno - node.lineno + 1, 40)


if __name__ == "__main__":
    unittest.main()
