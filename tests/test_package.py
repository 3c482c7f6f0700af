"""Point 1 for the whole package: no clock, chance or files can be reached from it."""
import ast
import builtins
import pathlib
import unittest

import berthline

FOLDER = pathlib.Path(berthline.__file__).parent

# Python's own names that neither read nor write anything outside the program.
HARMLESS = frozenset("""
    len range enumerate zip min max sum abs sorted reversed int str bool list tuple dict set frozenset
    isinstance ord repr any all divmod
    Exception ValueError TypeError KeyError IndexError LookupError ZeroDivisionError ArithmeticError
    OverflowError RuntimeError NotImplementedError AttributeError StopIteration
""".split())


def modules():
    for path in sorted(FOLDER.rglob("*.py")):
        yield path.name, path.read_text(encoding="utf-8")


class PackageTest(unittest.TestCase):
    def test_the_modules_are_found(self):
        names = [name for name, text in modules()]
        for name in ("__init__.py", "day.py", "digits.py", "errors.py", "places.py", "quay.py"):
            self.assertIn(name, names)

    def test_only_the_packages_own_modules_are_imported(self):
        for name, text in modules():
            for node in ast.walk(ast.parse(text)):
                self.assertNotIsInstance(node, ast.Import, name)
                if isinstance(node, ast.ImportFrom):
                    self.assertEqual(node.level, 0, name)
                    self.assertTrue(node.module.startswith("berthline."), (name, node.module))

    def test_only_harmless_names_of_pythons_own_are_used(self):
        for name, text in modules():
            for node in ast.walk(ast.parse(text)):
                if isinstance(node, ast.Name) and hasattr(builtins, node.id):
                    self.assertIn(node.id, HARMLESS, name)

    def test_signs_and_sizes(self):
        for name, text in modules():
            self.assertTrue(all(sign == "\n" or " " <= sign <= "~" for sign in text), name)
            lines = text.split("\n")
            self.assertLessEqual(len(lines), 400, name)
            self.assertLessEqual(max(len(line) for line in lines), 120, name)
            for node in ast.walk(ast.parse(text)):
                if isinstance(node, ast.FunctionDef):
                    self.assertLessEqual(node.end_lineno - node.lineno + 1, 40, (name, node.name))


if __name__ == "__main__":
    unittest.main()
