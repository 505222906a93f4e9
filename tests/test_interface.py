"""The names and parameters of the interface stand in the files that it names."""

import importlib
import inspect
import unittest

CLASSES = {
    "floodmark.errors": ["FloodError", "OutOfRange", "BadSystem", "BadRun", "BadBook", "BadCommand"],
}

FUNCTIONS = {
    "floodmark.vectors": {
        "primitive": "(vector)",
        "dot": "(first, second)",
        "combined": "(first, vector, second, other)",
        "echelon": "(rows)",
        "reduced": "(vector, rows)",
        "fraction": "(top, low)",
        "is_less": "(first, second)",
    },
    "floodmark.cone": {
        "dual": "(equations, conditions, size)",
    },
}


class InterfaceTest(unittest.TestCase):

    def test_functions_have_their_names_and_parameters(self):
        for module, functions in FUNCTIONS.items():
            for name, parameters in functions.items():
                with self.subTest(module=module, name=name):
                    function = getattr(importlib.import_module(module), name)
                    self.assertTrue(inspect.isfunction(function))
                    self.assertEqual(function.__module__, module)
                    self.assertEqual(str(inspect.signature(function)), parameters)

    def test_classes_have_their_names(self):
        for module, names in CLASSES.items():
            for name in names:
                with self.subTest(module=module, name=name):
                    found = getattr(importlib.import_module(module), name)
                    self.assertTrue(inspect.isclass(found))
                    self.assertEqual(found.__module__, module)


if __name__ == "__main__":
    unittest.main()
