"""Point 1: no clock, chance or files. The package draws on nothing that could reach them."""

import ast
import builtins
import pathlib
import unittest

PACKAGE = pathlib.Path(__file__).resolve().parent.parent / "shelfbook"

# Python's own names that rule L8 allows, without print: there is no __main__.py.
ALLOWED = set(
    "len range enumerate zip min max sum abs sorted reversed int str bool list tuple dict set "
    "frozenset isinstance ord repr any all divmod Exception ValueError TypeError KeyError "
    "IndexError LookupError ZeroDivisionError ArithmeticError OverflowError RuntimeError "
    "NotImplementedError AttributeError StopIteration".split())


def package_trees():
    return [(path.name, ast.parse(path.read_text(encoding="utf-8")))
            for path in sorted(PACKAGE.rglob("*.py"))]


class FormTest(unittest.TestCase):

    def test_the_package_is_there(self):
        names = [name for name, tree in package_trees()]
        for name in ("__init__.py", "day.py", "deals.py", "errors.py", "shop.py"):
            self.assertIn(name, names)

    def test_only_own_modules_are_imported(self):
        for name, tree in package_trees():
            for node in ast.walk(tree):
                with self.subTest(file=name):
                    self.assertNotIsInstance(node, ast.Import)
                    if isinstance(node, ast.ImportFrom):
                        self.assertEqual(node.level, 0)
                        self.assertTrue(node.module.startswith("shelfbook."), node.module)

    def test_only_allowed_names_of_python_are_used(self):
        for name, tree in package_trees():
            used = {node.id for node in ast.walk(tree) if isinstance(node, ast.Name)}
            with self.subTest(file=name):
                self.assertEqual((used & set(dir(builtins))) - ALLOWED, set())


if __name__ == "__main__":
    unittest.main()
