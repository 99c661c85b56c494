"""That what the interface lists exists under its name, with its arguments, in the file that lists it."""

import ast
import importlib
import inspect
import pathlib
import unittest

PACKAGE = pathlib.Path(__file__).resolve().parent.parent / "foldkeep"

FUNCTIONS = {
    "names": {
        "is_name": "(text)", "same_name": "(rule, first, second)", "fits": "(rule, name)", "path_text": "(path)",
        "read_path": "(text)",
    },
    "copies": {
        "ending": "(name)", "stem": "(name)", "copy_name": "(longest, name, number, k)",
        "numbered_name": "(longest, name, k)",
    },
    "patterns": {"matches": "(pattern, name)", "ignored": "(patterns, name)"},
}

CLASSES = {
    "errors": {
        "FoldError": {}, "NotPossible": {}, "NotNow": {}, "NoSuchDevice": {}, "NoSuchLetter": {}, "NoKeeper": {},
        "NoScript": {},
    },
    "names": {
        "Rule": {
            "__init__": "(self, *, alike=(), unfit=(), longest=80, swaps=True, reads=True, cuts=True, turns=True)",
        },
    },
}


def defined_in(name):
    """The functions, classes and methods that are defined in a file: names, and pairs of names."""
    tree = ast.parse((PACKAGE / (name + ".py")).read_text(encoding="utf-8"))
    found = []
    for node in tree.body:
        if isinstance(node, (ast.FunctionDef, ast.ClassDef)):
            found.append(node.name)
        if isinstance(node, ast.ClassDef):
            found.extend((node.name, one.name) for one in node.body if isinstance(one, ast.FunctionDef))
    return found


class Interface(unittest.TestCase):
    def test_functions(self):
        for name, functions in FUNCTIONS.items():
            module = importlib.import_module("foldkeep." + name)
            for word, arguments in functions.items():
                with self.subTest(file=name, name=word):
                    self.assertIn(word, defined_in(name))
                    self.assertEqual(str(inspect.signature(getattr(module, word))), arguments)

    def test_classes(self):
        for name, classes in CLASSES.items():
            module = importlib.import_module("foldkeep." + name)
            for word, methods in classes.items():
                with self.subTest(file=name, name=word):
                    self.assertIn(word, defined_in(name))
                    for method, arguments in methods.items():
                        self.assertIn((word, method), defined_in(name))
                        made = getattr(getattr(module, word), method)
                        self.assertEqual(str(inspect.signature(made)), arguments)


if __name__ == "__main__":
    unittest.main()
