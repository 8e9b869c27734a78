"""The interface: names, arguments, and the file in which each function and class stands."""

import importlib
import inspect
import unittest

FUNCTIONS = {
    "bestlooks.ratios": {
        "is_ratio": ("value",),
        "told": ("value", "what"),
        "plus": ("one", "other"),
        "minus": ("one", "other"),
        "times": ("one", "other"),
        "share": ("one", "other"),
        "lower": ("one", "other"),
        "floor_of": ("value",),
        "ratio_text": ("value",),
    },
    "bestlooks.polys": {
        "divided": ("one", "other"),
        "common": ("one", "other"),
    },
}

CLASSES = {
    "bestlooks.errors": {
        "LookError": {},
        "BadText": {"__init__": ("self", "column")},
        "BadLine": {"__init__": ("self", "line", "column")},
        "BadNumber": {"__init__": ("self", "what", "number")},
        "BadRow": {"__init__": ("self", "row")},
        "BadInterval": {"__init__": ("self", "low", "high")},
        "BadName": {"__init__": ("self", "name")},
        "Unlike": {"__init__": ("self", "what")},
        "NoName": {"__init__": ("self", "name")},
        "TakenName": {"__init__": ("self", "name")},
        "NotKept": {"__init__": ("self", "promise", "witness")},
        "NothingToUndo": {},
        "NothingToRedo": {},
    },
    "bestlooks.polys": {
        "Poly": {
            "__init__": ("self", "numbers"),
            "__eq__": ("self", "other"),
            "__add__": ("self", "other"),
            "__sub__": ("self", "other"),
            "__mul__": ("self", "other"),
            "__neg__": ("self",),
            "degree": ("self",),
            "at": ("self", "place"),
            "slope": ("self",),
            "moved": ("self", "start", "step"),
        },
    },
}


def parameters(function):
    return tuple(inspect.signature(function).parameters)


class Interface(unittest.TestCase):
    def test_functions(self):
        for place, functions in FUNCTIONS.items():
            module = importlib.import_module(place)
            for name, expected in functions.items():
                function = getattr(module, name)
                self.assertTrue(inspect.isfunction(function), name)
                self.assertEqual(function.__module__, place, name)
                self.assertEqual(parameters(function), expected, name)

    def test_classes(self):
        for place, classes in CLASSES.items():
            module = importlib.import_module(place)
            for name, methods in classes.items():
                self.assertTrue(inspect.isclass(getattr(module, name)), name)
                self.assertEqual(getattr(module, name).__module__, place, name)
                for method, expected in methods.items():
                    self.assertEqual(parameters(vars(getattr(module, name))[method]), expected, (name, method))


if __name__ == "__main__":
    unittest.main()
