"""The interface as the document lists it, and what can be counted of the language's rules."""

import ast
import importlib
import inspect
import pathlib
import unittest

PACKAGE = pathlib.Path(__file__).resolve().parent.parent / "arrowtrios"

# module: {function or class or method: names of its parameters}
INTERFACE = {
    "standings": {
        "Standing": ["x", "y", "z"],
        "turned": ["standing", "turns"],
        "length": ["turns"],
        "renamed": ["standing", "naming"],
    },
    "kinds": {
        "is_ringed": ["standing"],
        "least": ["standing"],
        "foot": ["standing"],
        "same_kind": ["one", "other"],
        "free_ones": ["standing"],
        "rings_of_mark": ["mark"],
    },
    "roads": {
        "descent": ["standing"],
        "road": ["one", "other"],
        "steps": ["one", "other"],
        "freeing": ["standing"],
    },
    "lists": {
        "standings_to": ["standing", "bound"],
        "least_above": ["standing", "bound"],
        "many_at": ["standing", "turns"],
    },
    "remainders": {
        "remainders": ["standing", "number"],
        "leaves": ["standing", "number", "rests"],
        "at_ties": ["standing", "number"],
    },
    "naming": {
        "naming_between": ["one", "other"],
        "own_namings": ["standing"],
    },
    "webs": {
        "Web": ["rows"],
        "reach": ["web"],
    },
    "boards": {
        "Board": ["standing"],
    },
    "books": {
        "Book": [],
    },
    "checker": {
        "accepts": ["claim", "paper"],
    },
    "certificates": {
        "certify_ring": ["standing"],
        "certify_kind": ["one", "other"],
        "certify_never": ["standing", "number", "rests"],
    },
    "console": {
        "Console": [],
    },
}

# (module, class): {method: names of its parameters}
METHODS = {
    ("webs", "Web"): {"turn": ["self", "place"]},
    ("boards", "Board"): {
        "turn": ["self", "word", "times"],
        "go": ["self", "turns"],
        "standing": ["self"],
        "undo": ["self"],
        "trial": ["self"],
        "tried": ["self", "action"],
    },
    ("books", "Book"): {
        "drop": ["self", "name"],
        "claim": ["self", "claim"],
        "lift": ["self", "index"],
        "undo": ["self"],
        "do_all": ["self", "deeds", "watch"],
        "trial": ["self"],
        "tried": ["self", "action"],
        "__len__": ["self"],
    },
    ("console", "Console"): {"say": ["self", "line"]},
}

# The methods of signs, whose parameters cannot be given by name.
SIGNS = {("books", "Book"): ["__getitem__", "__setitem__", "__contains__"]}

# What may be imported besides the modules of the package.
LIBRARY = {"math": {"isqrt", "gcd"}}

PROPERTIES = {
    ("standings", "Standing"): ["numbers", "sizes", "is_ring", "mark"],
    ("webs", "Web"): ["rows", "kept"],
    ("boards", "Board"): ["numbers", "changes"],
    ("books", "Book"): ["names", "claims", "changes"],
    ("console", "Console"): ["book"],
}


class InterfaceTest(unittest.TestCase):
    def test_names_and_parameters(self):
        for module_name, names in INTERFACE.items():
            module = importlib.import_module(f"arrowtrios.{module_name}")
            for name, parameters in names.items():
                with self.subTest(module=module_name, name=name):
                    thing = getattr(module, name)
                    self.assertEqual(list(inspect.signature(thing).parameters), parameters)
                    self.assertEqual(thing.__module__, module.__name__)

    def test_methods_stand_in_the_class_itself(self):
        for (module_name, class_name), methods in METHODS.items():
            members = vars(getattr(importlib.import_module(f"arrowtrios.{module_name}"), class_name))
            for name, parameters in methods.items():
                with self.subTest(class_name=class_name, name=name):
                    self.assertTrue(inspect.isfunction(members[name]))
                    self.assertEqual(list(inspect.signature(members[name]).parameters), parameters)
        for (module_name, class_name), names in SIGNS.items():
            members = vars(getattr(importlib.import_module(f"arrowtrios.{module_name}"), class_name))
            self.assertTrue(all(inspect.isfunction(members[name]) for name in names))

    def test_properties_stand_in_the_class_itself(self):
        for (module_name, class_name), names in PROPERTIES.items():
            members = vars(getattr(importlib.import_module(f"arrowtrios.{module_name}"), class_name))
            for name in names:
                with self.subTest(name=name):
                    self.assertIsInstance(members[name], property)


class LanguageTest(unittest.TestCase):
    def files(self):
        for path in sorted(PACKAGE.rglob("*")):
            if "__pycache__" not in path.parts:
                yield path, path.read_text(encoding="utf-8")

    def test_only_files_of_the_language(self):
        for path, _ in self.files():
            self.assertEqual(path.suffix, ".py")
        self.assertTrue((PACKAGE / "__init__.py").exists())

    def test_sizes_and_characters(self):
        for path, text in self.files():
            with self.subTest(path=path.name):
                self.assertLessEqual(len(text.splitlines()), 399)
                self.assertLessEqual(max(map(len, text.splitlines())), 120)
                self.assertTrue(all(" " <= letter <= "~" or letter == "\n" for letter in text))
                for node in ast.walk(ast.parse(text)):
                    if isinstance(node, ast.FunctionDef):
                        self.assertLessEqual(node.end_lineno - node.lineno + 1, 40, node.name)

    def test_exponents_and_values(self):
        for path, text in self.files():
            with self.subTest(path=path.name):
                for node in ast.walk(ast.parse(text)):
                    if isinstance(node, ast.BinOp) and isinstance(node.op, ast.Pow):
                        self.assertIn(node.right.value, range(65))
                    self.assertFalse(isinstance(node, ast.BinOp) and isinstance(node.op, ast.Div))
                    if isinstance(node, ast.Constant):
                        self.assertNotIsInstance(node.value, float)
                        self.assertFalse(isinstance(node.value, str) and "%" in node.value)

    def test_imports_come_from_the_package_and_what_is_let(self):
        for path, text in self.files():
            for node in ast.walk(ast.parse(text)):
                self.assertNotIsInstance(node, ast.Import, path.name)
                if isinstance(node, ast.ImportFrom) and node.module in LIBRARY:
                    self.assertLessEqual({alias.name for alias in node.names}, LIBRARY[node.module])
                elif isinstance(node, ast.ImportFrom):
                    self.assertTrue(node.module.startswith("arrowtrios."), path.name)


if __name__ == "__main__":
    unittest.main()
