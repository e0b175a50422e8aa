"""Tests of the form of the package: what stands in which file, and the sizes of its code."""

import ast
import builtins
import unittest
from pathlib import Path

PACKAGE = Path(__file__).resolve().parent.parent / "livenames"

FUNCTIONS = {
    "words.py": ["is_name"],
    "terms.py": ["is_tree", "in_order"],
    "walks.py": ["names_of", "free_names", "binders_around", "meaning", "uses_of", "shape_of", "alike"],
    "writing.py": ["are_names", "written", "is_right", "catches"],
    "clashing.py": ["live_at", "clashes", "do_clash", "hurt"],
    "fewest.py": ["width", "fewest", "told_naming", "crowd", "fewest_paper", "accepts_fewest"],
    "counting.py": ["is_pool", "how_many", "all_namings", "naming_at", "number_of"],
    "keeping.py": ["are_wishes", "are_weights", "kept_by", "kept_weight", "told_kept", "most_kept", "shared"],
    "prices.py": ["told_prices", "are_prices", "kept_paper", "accepts_kept"],
    "numbered.py": ["numbered", "is_form", "from_form"],
    "putting.py": ["are_links", "put", "put_renamed", "put_catches"],
    "inlining.py": ["can_inline", "inline", "inline_renamed", "inline_catches"],
    "leading.py": ["is_enough", "is_way", "lead"],
    "notes.py": ["write_term", "read_term", "write_form"],
}

METHODS = {
    ("terms.py", "Term"): [
        "__init__", "tree", "__len__", "__getitem__", "__contains__", "__iter__", "listed", "binders", "uses",
        "depth", "__eq__", "of_use", "of_join", "of_bind",
    ],
    ("live.py", "Live"): [
        "__init__", "kept", "named", "rename", "tune", "put", "inline", "wrap", "unwrap", "undo", "__len__", "twin",
        "trial", "trying",
    ],
    ("live.py", "Trial"): ["__enter__", "__exit__", "keep"],
    ("console.py", "Console"): ["__init__", "run"],
    ("errors.py", "BinderError"): [],
    ("errors.py", "NoTerm"): ["__init__"],
    ("errors.py", "NoNode"): ["__init__"],
    ("errors.py", "NoBinder"): ["__init__"],
    ("errors.py", "NoUse"): ["__init__"],
    ("errors.py", "NoNames"): ["__init__"],
    ("errors.py", "NoPool"): ["__init__"],
    ("errors.py", "NoNumber"): ["__init__"],
    ("errors.py", "NoWishes"): ["__init__"],
    ("errors.py", "NoWeights"): ["__init__"],
    ("errors.py", "NoForm"): ["__init__"],
    ("errors.py", "NoLinks"): ["__init__"],
    ("errors.py", "NothingBack"): ["__init__"],
    ("errors.py", "NoNote"): ["__init__"],
    ("errors.py", "TooMany"): ["__init__"],
}

BUILTINS = [
    "len", "range", "enumerate", "zip", "min", "max", "sum", "abs", "sorted", "reversed", "int", "str", "bool",
    "list", "tuple", "dict", "set", "isinstance", "ord", "repr", "any", "all", "divmod", "ValueError", "OverflowError",
    "staticmethod", "iter",
]

# A run of examples leaves a builtin `_` behind.
TAKEN = set(dir(builtins)) - {"_"}

BARRED = (ast.Global, ast.AsyncFunctionDef, ast.Await, ast.Div, ast.MatMult)
# These take no generator expression, since a class of the package has an __eq__.
TAKE_LISTS = ["any", "all", "min", "max", "sum", "sorted"]


def files():
    return [path for path in sorted(PACKAGE.rglob("*")) if "__pycache__" not in path.parts]


def body_of(file):
    return ast.parse((PACKAGE / file).read_text()).body


def defined(body, kind):
    return {part.name: part for part in body if isinstance(part, kind)}


class TestForm(unittest.TestCase):

    def test_functions_are_defined_in_their_files(self):
        for file, names in FUNCTIONS.items():
            self.assertLessEqual(set(names), set(defined(body_of(file), ast.FunctionDef)), file)

    def test_methods_are_defined_in_their_classes(self):
        for (file, name), methods in METHODS.items():
            told = defined(body_of(file), ast.ClassDef)[name]
            self.assertLessEqual(set(methods), set(defined(told.body, ast.FunctionDef)), name)

    def test_the_package_holds_nothing_but_python_files(self):
        self.assertIn(PACKAGE / "__init__.py", files())
        for path in files():
            self.assertEqual(path.suffix, ".py", path)
            self.assertFalse(path.name.startswith("test"), path)

    def test_signs_and_sizes(self):
        for path in files():
            text = path.read_text(encoding="utf-8")
            self.assertTrue(all(sign == "\n" or " " <= sign <= "~" for sign in text), path)
            self.assertLess(len(text.splitlines()), 400, path)
            self.assertLessEqual(max(len(line) for line in text.splitlines()), 120, path)
            for part in ast.walk(ast.parse(text)):
                if isinstance(part, ast.FunctionDef):
                    self.assertLessEqual(part.end_lineno - part.lineno + 1, 40, (path, part.name))

    def test_imports_are_from_modules_of_the_package_by_full_names(self):
        for path in files():
            for part in ast.walk(ast.parse(path.read_text())):
                self.assertNotIsInstance(part, ast.Import, path)
                if isinstance(part, ast.ImportFrom):
                    self.assertEqual(part.level, 0, path)
                    self.assertTrue(part.module.startswith("livenames."), (path, part.module))

    def test_no_file_imports_from_one_that_imports_from_it(self):
        imported = {
            path.stem: [part.module.split(".")[1] for part in body_of(path.name) if isinstance(part, ast.ImportFrom)]
            for path in files()
        }
        while imported:
            free = [file for file, needed in imported.items() if not set(needed) & set(imported)]
            self.assertTrue(free, imported)
            for file in free:
                del imported[file]

    def test_imported_names_are_defined_in_the_file_named(self):
        for path in files():
            for part in body_of(path.name):
                if isinstance(part, ast.ImportFrom):
                    told = defined(body_of(part.module.split(".")[1] + ".py"), (ast.FunctionDef, ast.ClassDef))
                    self.assertLessEqual({name.name for name in part.names}, set(told), (path, part.module))

    def test_names_are_bound_once_and_mean_one_thing(self):
        for path in files():
            body = body_of(path.name)
            imports = [name.name for part in body if isinstance(part, ast.ImportFrom) for name in part.names]
            classes = list(defined(body, ast.ClassDef))
            functions = list(defined(body, ast.FunctionDef))
            values = [part.targets[0].id for part in body if isinstance(part, ast.Assign)]
            at_top = imports + classes + functions + values
            self.assertEqual(len(at_top), len(set(at_top)), path)
            taken = set(imports + classes + functions) | TAKEN
            for part in ast.walk(ast.parse(path.read_text())):
                if isinstance(part, ast.arg):
                    self.assertNotIn(part.arg, taken, (path, part.lineno))
                if isinstance(part, ast.Name) and isinstance(part.ctx, ast.Store):
                    self.assertNotIn(part.id, taken, (path, part.lineno))

    def test_the_words_of_the_language(self):
        for path in files():
            for part in ast.walk(ast.parse(path.read_text())):
                self.assertNotIsInstance(part, BARRED, path)
                if isinstance(part, ast.Name) and part.id in TAKEN:
                    self.assertIn(part.id, BUILTINS, (path, part.lineno))
                if isinstance(part, ast.Call) and ast.unparse(part.func) in TAKE_LISTS:
                    for argument in part.args:
                        self.assertNotIsInstance(argument, ast.GeneratorExp, (path, part.lineno))
                if isinstance(part, ast.Constant):
                    self.assertNotIsInstance(part.value, (float, complex), (path, part.lineno))
                if isinstance(part, ast.Compare) and isinstance(part.ops[0], (ast.Is, ast.IsNot)):
                    self.assertIn(ast.unparse(part.comparators[0]), ["None", "True", "False"], (path, part.lineno))
                if isinstance(part, ast.FunctionDef):
                    self.assertLessEqual({told.id for told in part.decorator_list}, {"staticmethod"}, path)


if __name__ == "__main__":
    unittest.main()
