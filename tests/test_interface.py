"""The interface: its names and arguments, each defined in the file that lists it."""

import ast
import importlib
import inspect
import unittest

FUNCTIONS = {
    "fewreadings.weightings": {
        "power_sum": ["weighting", "power"],
        "power_sums": ["weighting", "count"],
        "total": ["weighting", "polynomial"],
        "mean": ["weighting", "polynomial"],
        "moved": ["weighting", "shift"],
        "mirrored": ["weighting"],
        "joined": ["one", "other"],
    },
    "fewreadings.rules": {
        "reading": ["places", "weights", "polynomial"],
        "served": ["weighting", "places", "weights"],
        "weights_for": ["weighting", "places"],
        "best_degree": ["weighting", "places"],
        "bar": ["weighting", "places"],
    },
    "fewreadings.roots": {
        "root_polynomial": ["weighting", "count"],
        "steps": ["weighting", "count"],
        "fewest_places": ["weighting", "degree"],
        "root_floors": ["weighting", "count", "scale"],
        "roots_between": ["weighting", "count", "low", "high"],
        "all_whole": ["weighting", "count"],
        "whole_rule": ["weighting", "count"],
    },
    "fewreadings.further": {
        "further_polynomial": ["weighting", "told", "count"],
        "is_grown": ["weighting", "told", "further"],
        "determinants": ["sums"],
        "next_least": ["sums"],
    },
    "fewreadings.misses": {
        "gap": ["weighting", "places", "weights", "power"],
        "first_gap": ["weighting", "places", "weights"],
        "needless_places": ["weighting", "places"],
        "heavy_places": ["weighting", "places"],
        "polynomial_by": ["places", "readings"],
        "sum_by": ["weighting", "places", "readings"],
        "lacking_reading": ["weighting", "places", "readings", "lacking", "wanted"],
        "false_ones": ["places", "readings", "degree"],
        "repaired": ["places", "readings", "degree"],
        "cut_sum": ["low", "high", "parts", "places", "weights", "polynomial"],
        "cut_gap": ["low", "high", "parts", "places", "weights", "polynomial"],
    },
    "fewreadings.notation": {
        "fraction_text": ["fraction"],
        "polynomial_text": ["polynomial"],
        "format_weighting": ["weighting"],
        "parse_weighting": ["text"],
    },
    "fewreadings.codec": {
        "encode_weighting": ["weighting"],
        "decode_weighting": ["values"],
    },
    "fewreadings.scripts": {
        "run_script": ["weighting", "text"],
    },
}
# The arguments of each class, and its methods and properties with their arguments.
CLASSES = {
    "fewreadings.weightings": {
        "Weighting": (["masses", "stretches"], {"masses": ["self"], "stretches": ["self"], "__eq__": ["self", "other"]}),
    },
    "fewreadings.balances": {
        "Balance": (["weighting"], {
            "weighting_now": ["self"],
            "whole_now": ["self"],
            "mean_now": ["self"],
            "kept_under": ["self"],
            "history": ["self"],
            "add": ["self", "place", "mass"],
            "lay": ["self", "low", "high", "height"],
            "lift": ["self", "place"],
            "move": ["self", "shift"],
            "keep_as": ["self", "name"],
            "fetch": ["self", "name"],
            "undo": ["self"],
            "redo": ["self"],
            "apply_all": ["self", "operations"],
            "tried_out": ["self", "operations", "keep"],
            "replay": ["cls", "weighting", "operations"],
        }),
        "Trial": (["balance"], {"hold": ["self"], "__enter__": ["self"], "__exit__": ["self", "kind", "value", "trace"]}),
    },
    "fewreadings.readers": {
        "Reader": (["weighting", "places", "degree"], {
            "known": ["self"],
            "told_so_far": ["self"],
            "seen": ["self", "index", "reading"],
            "polynomial_known": ["self"],
            "sum_known": ["self"],
            "places_left": ["self"],
        }),
    },
}


class InterfaceTest(unittest.TestCase):
    def test_functions(self):
        for module_name, functions in FUNCTIONS.items():
            module = importlib.import_module(module_name)
            for name, arguments in functions.items():
                with self.subTest(name):
                    function = getattr(module, name)
                    self.assertEqual(function.__module__, module_name)
                    self.assertEqual(list(inspect.signature(function).parameters), arguments)

    def test_classes(self):
        for module_name, classes in CLASSES.items():
            module = importlib.import_module(module_name)
            tree = ast.parse(inspect.getsource(module))
            for name, (arguments, methods) in classes.items():
                with self.subTest(name):
                    self.assertEqual(list(inspect.signature(getattr(module, name)).parameters), arguments)
                    body = next(node.body for node in tree.body if isinstance(node, ast.ClassDef) and node.name == name)
                    defined = {node.name: [one.arg for one in node.args.args] for node in body
                               if isinstance(node, ast.FunctionDef)}
                    self.assertLessEqual(methods.items(), defined.items())


if __name__ == "__main__":
    unittest.main()
