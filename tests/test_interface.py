"""The interface: its names and arguments, each defined in the file that lists it."""

import ast
import importlib
import inspect
import unittest

FUNCTIONS = {
    "fewreadings.weightings": {
        "power_sum": ["weighting", "power"],
        "power_sums": ["weighting", "count"],
        "total": ["weighting", "polynomial"],
        "mean": ["weighting", "polynomial"],
        "moved": ["weighting", "shift"],
        "mirrored": ["weighting"],
        "joined": ["one", "other"],
    },
    "fewreadings.rules": {
        "reading": ["places", "weights", "polynomial"],
        "served": ["weighting", "places", "weights"],
        "weights_for": ["weighting", "places"],
        "best_degree": ["weighting", "places"],
        "bar": ["weighting", "places"],
    },
}
CLASSES = {
    "fewreadings.weightings": {"Weighting": (["masses", "stretches"], ["masses", "stretches"])},
}


class InterfaceTest(unittest.TestCase):
    def test_functions(self):
        for module_name, functions in FUNCTIONS.items():
            module = importlib.import_module(module_name)
            for name, arguments in functions.items():
                with self.subTest(name):
                    function = getattr(module, name)
                    self.assertEqual(function.__module__, module_name)
                    self.assertEqual(list(inspect.signature(function).parameters), arguments)

    def test_classes(self):
        for module_name, classes in CLASSES.items():
            module = importlib.import_module(module_name)
            tree = ast.parse(inspect.getsource(module))
            for name, (arguments, methods) in classes.items():
                with self.subTest(name):
                    self.assertEqual(list(inspect.signature(getattr(module, name)).parameters), arguments)
                    body = next(node.body for node in tree.body if isinstance(node, ast.ClassDef) and node.name == name)
                    defined = [node.name for node in body if isinstance(node, ast.FunctionDef)]
                    for method in methods:
                        self.assertIn(method, defined)


if __name__ == "__main__":
    unittest.main()
