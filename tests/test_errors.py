"""The errors, their base classes and their attributes."""

import inspect
import unittest

from fewreadings import errors

ATTRIBUTES = {
    "InvalidWeighting": ("part", "index"),
    "InvalidNumber": (),
    "InvalidPolynomial": (),
    "InvalidPlaces": ("index",),
    "InvalidWeights": ("index",),
    "TooFew": (),
    "InvalidFraction": (),
    "InvalidSums": ("index",),
    "NoWeighting": (),
    "InvalidReadings": ("index",),
    "UnknownPlace": (),
    "InvalidMass": (),
    "InvalidStretch": (),
    "NoMass": (),
    "NothingLeft": (),
    "InvalidMove": (),
    "InvalidName": (),
    "UnknownKept": (),
    "InvalidOperation": ("index",),
    "Clash": (),
    "InvalidText": ("row", "word"),
    "DecodeError": ("offset",),
    "ScriptError": ("row",),
    "ExecutionFailed": ("row",),
    "TooLong": (),
}


class ErrorsTest(unittest.TestCase):
    def test_base_class(self):
        self.assertEqual(errors.ReadingError.__bases__, (ValueError,))

    def test_all_are_direct_subclasses(self):
        for name in ATTRIBUTES:
            with self.subTest(name):
                self.assertEqual(getattr(errors, name).__bases__, (errors.ReadingError,))

    def test_no_other_errors(self):
        found = [name for name, _ in inspect.getmembers(errors, inspect.isclass)]
        self.assertEqual(sorted(found), sorted([*ATTRIBUTES, "ReadingError"]))

    def test_attributes(self):
        for name, attributes in ATTRIBUTES.items():
            with self.subTest(name):
                worths = list(range(3, 3 + len(attributes)))
                error = getattr(errors, name)(*worths)
                self.assertEqual([getattr(error, attribute) for attribute in attributes], worths)
                self.assertIsInstance(str(error), str)


if __name__ == "__main__":
    unittest.main()
