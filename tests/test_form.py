"""Tests of the form of the package: what stands in which file, and the sizes of its code."""

import ast
import unittest
from pathlib import Path

PACKAGE = Path(__file__).resolve().parent.parent / "livenames"

FUNCTIONS = {
    "words.py": ["is_name"],
    "terms.py": ["is_tree", "in_order"],
}

METHODS = {
    ("terms.py", "Term"): [
        "__init__", "tree", "__len__", "__getitem__", "__contains__", "__iter__", "listed", "binders", "uses",
        "depth", "__eq__", "of_use", "of_join", "of_bind",
    ],
    ("errors.py", "BinderError"): [],
    ("errors.py", "NoTerm"): ["__init__"],
    ("errors.py", "NoNode"): ["__init__"],
    ("errors.py", "NoBinder"): ["__init__"],
    ("errors.py", "NoUse"): ["__init__"],
    ("errors.py", "NoNames"): ["__init__"],
    ("errors.py", "NoPool"): ["__init__"],
    ("errors.py", "NoNumber"): ["__init__"],
    ("errors.py", "NoWishes"): ["__init__"],
    ("errors.py", "NoWeights"): ["__init__"],
    ("errors.py", "NoForm"): ["__init__"],
    ("errors.py", "NoLinks"): ["__init__"],
    ("errors.py", "NothingBack"): ["__init__"],
    ("errors.py", "NoNote"): ["__init__"],
    ("errors.py", "TooMany"): ["__init__"],
}


def files():
    return [path for path in sorted(PACKAGE.rglob("*")) if "__pycache__" not in path.parts]


def body_of(file):
    return ast.parse((PACKAGE / file).read_text()).body


def defined(body, kind):
    return {part.name: part for part in body if isinstance(part, kind)}


class TestForm(unittest.TestCase):

    def test_functions_are_defined_in_their_files(self):
        for file, names in FUNCTIONS.items():
            self.assertLessEqual(set(names), set(defined(body_of(file), ast.FunctionDef)), file)

    def test_methods_are_defined_in_their_classes(self):
        for (file, name), methods in METHODS.items():
            told = defined(body_of(file), ast.ClassDef)[name]
            self.assertLessEqual(set(methods), set(defined(told.body, ast.FunctionDef)), name)

    def test_the_package_holds_nothing_but_python_files(self):
        self.assertIn(PACKAGE / "__init__.py", files())
        for path in files():
            self.assertEqual(path.suffix, ".py", path)
            self.assertFalse(path.name.startswith("test"), path)

    def test_signs_and_sizes(self):
        for path in files():
            text = path.read_text(encoding="utf-8")
            self.assertTrue(all(sign == "\n" or " " <= sign <= "~" for sign in text), path)
            self.assertLess(len(text.splitlines()), 400, path)
            self.assertLessEqual(max(len(line) for line in text.splitlines()), 120, path)
            for part in ast.walk(ast.parse(text)):
                if isinstance(part, ast.FunctionDef):
                    self.assertLessEqual(part.end_lineno - part.lineno + 1, 40, (path, part.name))

    def test_imports_are_from_modules_of_the_package_by_full_names(self):
        for path in files():
            for part in ast.walk(ast.parse(path.read_text())):
                self.assertNotIsInstance(part, ast.Import, path)
                if isinstance(part, ast.ImportFrom):
                    self.assertEqual(part.level, 0, path)
                    self.assertTrue(part.module.startswith("livenames."), (path, part.module))


if __name__ == "__main__":
    unittest.main()
