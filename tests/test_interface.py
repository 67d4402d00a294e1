import ast
import inspect
import pathlib
import unittest

import bitmill
from bitmill import deeds, errors, joining, lists, mill, seals, shown

FOLDER = pathlib.Path(bitmill.__file__).parent


def defined(path):
    """What a file defines itself at its module level: each name with the names of its methods."""
    rows = ast.parse(path.read_text()).body
    return {row.name: [part.name for part in getattr(row, "body", []) if isinstance(part, ast.FunctionDef)]
            for row in rows if isinstance(row, (ast.FunctionDef, ast.ClassDef))}


class Interface(unittest.TestCase):
    def takes(self, call, wanted):
        self.assertEqual(str(inspect.signature(call)), wanted)

    def test_errors(self):
        names = defined(FOLDER / "errors.py")
        for name in ["MillError", "BadDeed", "BadReach", "NoDeed", "BadCount", "NoMend", "BadImage", "BadGiven",
                     "BadList", "BadRow"]:
            self.assertIn(name, names)
            self.assertTrue(issubclass(getattr(errors, name), errors.MillError))

    def test_functions(self):
        for file, name, wanted in [
            (deeds, "packed", "(deed, place=0)"), (deeds, "unpacked", "(image, place=0)"),
            (joining, "assembled", "(text)"), (joining, "places", "(text)"),
            (shown, "shown", "(image)"), (shown, "listing", "(image, wide=0)"),
            (lists, "deeds_of", "(image)"), (lists, "lean", "(deeds)"), (lists, "image_of", "(deeds)"),
            (seals, "sealed", "(image)"), (seals, "mended", "(block)"),
        ]:
            self.assertIn(name, defined(pathlib.Path(file.__file__)))
            self.takes(getattr(file, name), wanted)

    def test_mill(self):
        methods = defined(FOLDER / "mill.py")["Mill"]
        for name, wanted in [("step", "(self, count=1)"), ("run", "(self, most=1000)"), ("back", "(self, count=1)"),
                             ("give", "(self, number)"), ("stop_at", "(self, place, on=True)"), ("said", "(self)"),
                             ("memory", "(self)"), ("state", "(self)")]:
            self.assertIn(name, methods)
            self.takes(getattr(mill.Mill, name), wanted)
        self.takes(mill.Mill, "(image, given=None)")


class Form(unittest.TestCase):
    """Rules of form that can be told of each file by itself."""

    def test_files(self):
        for path in FOLDER.iterdir():
            if path.name != "__pycache__":
                self.assertEqual(path.suffix, ".py", path)

    def test_sizes_and_signs(self):
        for path in FOLDER.glob("*.py"):
            text = path.read_text()
            lines = text.split("\n")
            self.assertLessEqual(len(lines), 400, path)
            for number, line in enumerate(lines, 1):
                self.assertLessEqual(len(line), 120, (path, number))
            self.assertEqual([sign for sign in text if sign != "\n" and not " " <= sign <= "~"], [], path)
            for part in ast.walk(ast.parse(text)):
                if isinstance(part, ast.FunctionDef):
                    self.assertLessEqual(part.end_lineno - part.lineno + 1, 40, (path, part.name))

    def test_imports_are_of_the_package_alone(self):
        for path in FOLDER.glob("*.py"):
            for part in ast.walk(ast.parse(path.read_text())):
                self.assertNotIsInstance(part, (ast.Import, ast.Global), path)
                if isinstance(part, ast.ImportFrom):
                    self.assertTrue(part.module.startswith("bitmill."), (path, part.module))


if __name__ == "__main__":
    unittest.main()
