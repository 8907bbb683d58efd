"""The names and arguments of the interface, each in its own file, each method in its own class."""

import importlib
import inspect
import unittest

FUNCTIONS = {
    "checks": {"is_integer": "value", "is_within": "value least most", "is_numbers": "value", "first_twice": "values"},
    "papers": {"fixed": "value"},
    "counts": {"is_counts": "value", "counts_of": "row", "plus": "one other", "less": "one other",
               "times": "one other", "moved": "counts number", "divided": "counts by"},
}

CLASSES = {
    "papers": {"Paper": {"__init__": "self word *parts", "__eq__": "self other"},
               "Denial": {"__init__": "self word *parts", "__eq__": "self other"}},
    "rules": {"Rule": {"__init__": "self counts", "read": "text", "__str__": "self", "__eq__": "self other"}},
}


def arguments(made):
    return " ".join(str(one) for one in inspect.signature(made).parameters.values())


class Interface(unittest.TestCase):
    def test_functions(self):
        for module, functions in FUNCTIONS.items():
            held = importlib.import_module("sevenasone." + module)
            for name, wanted in functions.items():
                made = getattr(held, name)
                self.assertEqual(made.__module__, held.__name__, name)
                self.assertEqual(arguments(made), wanted, name)

    def test_classes(self):
        for module, classes in CLASSES.items():
            held = importlib.import_module("sevenasone." + module)
            for name, methods in classes.items():
                made = getattr(held, name)
                self.assertEqual(made.__module__, held.__name__, name)
                for method, wanted in methods.items():
                    self.assertIn(method, vars(made), name)
                    own = vars(made)[method]
                    self.assertEqual(arguments(own.__func__ if isinstance(own, staticmethod) else own), wanted, method)


if __name__ == "__main__":
    unittest.main()
