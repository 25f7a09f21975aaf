"""The interface: names, arguments and files as the document lists them."""

import ast
import inspect
import pathlib
import unittest

import choosecarry
from choosecarry import answers, errors, figures, rows, ways

FOLDER = pathlib.Path(choosecarry.__file__).parent
FUNCTIONS = {
    figures: {"figures": ["prime", "many"], "product": ["prime", "many"]},
    ways: {"ways": ["prime", "many", "some"], "told": ["prime", "many", "some"]},
    rows: {
        "free": ["prime", "many"],
        "most": ["prime", "many"],
        "place_by": ["prime", "many", "number"],
        "number_of": ["prime", "many", "some"],
    },
}
CLASSES = {
    errors: ["ChooseError", "BadPrime", "BadMany", "BadSome", "BadNumber", "NotFree"],
    answers: ["Answer", "Free", "Bound"],
}


def defined(module, kind):
    """What a file itself defines at its top."""
    tree = ast.parse(pathlib.Path(module.__file__).read_text())
    return [node.name for node in tree.body if isinstance(node, kind)]


class Interface(unittest.TestCase):
    def test_functions(self):
        for module, functions in FUNCTIONS.items():
            for name, arguments in functions.items():
                self.assertIn(name, defined(module, ast.FunctionDef))
                function = getattr(module, name)
                self.assertEqual(list(inspect.signature(function).parameters), arguments)

    def test_arguments_by_name(self):
        self.assertEqual(figures.figures(many=10, prime=3), [1, 0, 1])
        self.assertEqual(figures.product(many=3, prime=3), (1, 2))
        self.assertEqual(ways.ways(some=3, many=10, prime=3), (1, 1))
        self.assertEqual(ways.told(some=3, many=10, prime=3).place, 1)
        self.assertEqual(rows.free(many=10, prime=3), 4)
        self.assertEqual(rows.most(many=10, prime=3), 2)
        self.assertEqual(rows.place_by(number=2, many=10, prime=3), 9)
        self.assertEqual(rows.number_of(some=9, many=10, prime=3), 2)
        self.assertTrue(answers.Free(rest=1).shows(some=9, many=10, prime=3))
        self.assertTrue(answers.Bound(place=1).shows(some=3, many=10, prime=3))

    def test_classes(self):
        for module, names in CLASSES.items():
            for name in names:
                self.assertIn(name, defined(module, ast.ClassDef))

    def test_shows_in_each_class(self):
        for kind, field in ((answers.Free, "rest"), (answers.Bound, "place")):
            self.assertIn("shows", vars(kind))
            self.assertEqual(list(inspect.signature(kind).parameters), [field])
            parameters = list(inspect.signature(kind(1).shows).parameters)
            self.assertEqual(parameters, ["prime", "many", "some"])


class Language(unittest.TestCase):
    """What of the rules of the language can be seen at a glance."""

    def files(self):
        return [(path, path.read_text(encoding="ascii")) for path in sorted(FOLDER.glob("*.py"))]

    def test_only_plain_files(self):
        for path in FOLDER.iterdir():
            if path.name != "__pycache__":
                self.assertEqual(path.suffix, ".py")

    def test_sizes_and_signs(self):
        for path, text in self.files():
            self.assertLessEqual(len(text.splitlines()), 399, path)
            for line in text.split("\n"):
                self.assertLessEqual(len(line), 120, path)
                self.assertTrue(all(" " <= sign <= "~" for sign in line), path)
            for node in ast.walk(ast.parse(text)):
                if isinstance(node, ast.FunctionDef):
                    self.assertLessEqual(node.end_lineno - node.lineno + 1, 40, node.name)

    def test_imports(self):
        for path, text in self.files():
            for node in ast.walk(ast.parse(text)):
                self.assertNotIsInstance(node, ast.Import, path)
                if isinstance(node, ast.ImportFrom):
                    self.assertEqual(node.level, 0)
                    if node.module == "math":
                        self.assertEqual([name.name for name in node.names], ["isqrt"])
                    else:
                        self.assertTrue(node.module.startswith("choosecarry."), path)

    def test_no_floats(self):
        for path, text in self.files():
            for node in ast.walk(ast.parse(text)):
                self.assertNotIsInstance(node, (ast.Div, ast.Pow, ast.Global), path)
                if isinstance(node, ast.Constant):
                    self.assertNotIsInstance(node.value, (float, complex), path)


if __name__ == "__main__":
    unittest.main()
