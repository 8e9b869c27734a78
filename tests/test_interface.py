"""The interface: names, arguments, and the file in which each function and class stands."""

import importlib
import inspect
import unittest

FUNCTIONS = {
    "bestlooks.ratios": {
        "is_ratio": ("value",),
        "told": ("value", "what"),
        "plus": ("one", "other"),
        "minus": ("one", "other"),
        "times": ("one", "other"),
        "share": ("one", "other"),
        "lower": ("one", "other"),
        "floor_of": ("value",),
        "ratio_text": ("value",),
    },
    "bestlooks.polys": {
        "divided": ("one", "other"),
        "common": ("one", "other"),
    },
    "bestlooks.sums": {
        "largest": ("rows", "right", "worth"),
        "is_largest": ("rows", "right", "worth", "told"),
    },
    "bestlooks.tables": {
        "solved": ("one", "right"),
        "squares_of": ("one",),
        "is_squares": ("one", "told"),
    },
    "bestlooks.looks": {
        "width": ("looks",),
        "row_at": ("looks", "place"),
        "table_of": ("looks", "design"),
        "form_at": ("looks", "table", "place"),
        "form_on": ("curve", "table"),
        "best_weights": ("looks", "design", "c"),
        "spread_of": ("looks", "design", "c"),
        "can_tell": ("looks", "c"),
        "is_told_rightly": ("looks", "c", "told"),
        "rank_of": ("looks",),
    },
    "bestlooks.signs": {
        "nowhere_below": ("poly", "low", "high"),
        "is_split": ("poly", "low", "high", "told"),
        "least_of": ("poly", "low", "high", "bits"),
        "capped": ("looks", "table", "bound"),
        "is_capped": ("looks", "table", "bound", "told"),
    },
    "bestlooks.orders": {
        "no_worse": ("one", "other"),
        "is_order": ("one", "other", "told"),
        "greatest_ratio": ("one", "other", "bits"),
        "is_ratio_told": ("one", "other", "bits", "told"),
        "few_places": ("looks", "design"),
        "mixed_design": ("designs", "parts"),
        "turned_rows": ("rows", "turning"),
        "turned_number": ("number", "turning"),
        "turned_table": ("table", "turning"),
        "mirror": ("rows", "turning"),
        "evened": ("design", "indices"),
    },
    "bestlooks.lists": {
        "best_for": ("rows", "c"),
        "is_best_for": ("rows", "c", "told"),
        "slabs": ("rows",),
        "needed": ("rows",),
        "along": ("rows", "c", "d"),
        "priced": ("rows", "costs"),
        "lost": ("rows", "c"),
        "is_lost": ("rows", "c", "told"),
    },
    "bestlooks.curves": {
        "best_on": ("curve", "c", "bits"),
        "is_best_on": ("curve", "c", "bits", "told"),
    },
    "bestlooks.wholes": {
        "best_whole": ("looks", "bits", "taken=None", "amount=1"),
        "is_best_whole": ("looks", "bits", "told", "taken=None", "amount=1"),
        "peak": ("looks", "design", "bits"),
        "never_used": ("rows", "told"),
        "sure_places": ("rows", "indices", "bits"),
        "is_sure": ("rows", "indices", "bits", "told"),
    },
    "bestlooks.spreads": {
        "least_sum": ("looks", "numbers", "weights", "bits"),
        "is_least_sum": ("looks", "numbers", "weights", "bits", "told"),
        "worst_direction": ("looks", "bits"),
        "is_worst_direction": ("looks", "bits", "told"),
    },
    "bestlooks.ovals": {
        "size_of": ("oval",),
        "holds": ("oval", "point"),
        "moved_oval": ("oval", "matrix", "shift"),
        "least_oval": ("points", "bits", "middle=None"),
        "is_least_oval": ("points", "bits", "told", "middle=None"),
    },
    "bestlooks.counts": {
        "most_det": ("looks", "many"),
        "is_most_det": ("looks", "many", "told"),
        "least_spread": ("looks", "row", "many"),
        "is_least_spread": ("looks", "row", "many", "told"),
        "next_look": ("looks", "counts"),
        "least_many": ("looks", "row", "spread", "most"),
        "weighings": ("many",),
        "pans": ("many",),
    },
    "bestlooks.rivals": {
        "parting": ("rows", "values", "design"),
        "best_parting": ("rows", "values"),
        "is_best_parting": ("rows", "values", "told"),
    },
    "bestlooks.texts": {
        "poly_of": ("text",),
        "poly_text": ("poly",),
    },
}

CLASSES = {
    "bestlooks.errors": {
        "LookError": {},
        "BadText": {"__init__": ("self", "column")},
        "BadLine": {"__init__": ("self", "line", "column")},
        "BadNumber": {"__init__": ("self", "what", "number")},
        "BadRow": {"__init__": ("self", "row")},
        "BadInterval": {"__init__": ("self", "low", "high")},
        "BadName": {"__init__": ("self", "name")},
        "Unlike": {"__init__": ("self", "what")},
        "NoName": {"__init__": ("self", "name")},
        "TakenName": {"__init__": ("self", "name")},
        "NotKept": {"__init__": ("self", "promise", "witness")},
        "NothingToUndo": {},
        "NothingToRedo": {},
    },
    "bestlooks.polys": {
        "Poly": {
            "__init__": ("self", "numbers"),
            "__eq__": ("self", "other"),
            "__add__": ("self", "other"),
            "__sub__": ("self", "other"),
            "__mul__": ("self", "other"),
            "__neg__": ("self",),
            "degree": ("self",),
            "at": ("self", "place"),
            "slope": ("self",),
            "moved": ("self", "start", "step"),
        },
    },
    "bestlooks.sums": {
        "Reached": {"__init__": ("self", "number", "spots", "weights")},
        "Endless": {"__init__": ("self", "spots", "run")},
        "Nothing": {"__init__": ("self", "weights")},
    },
    "bestlooks.tables": {
        "Table": {
            "__init__": ("self", "rows"),
            "__eq__": ("self", "other"),
            "__add__": ("self", "other"),
            "__sub__": ("self", "other"),
            "__mul__": ("self", "other"),
            "turned": ("self",),
            "rank": ("self",),
            "det": ("self",),
            "inverse": ("self",),
        },
        "Answer": {"__init__": ("self", "row")},
        "NoAnswer": {"__init__": ("self", "row")},
        "Squares": {"__init__": ("self", "weights", "rows")},
        "BelowNought": {"__init__": ("self", "row", "number")},
    },
    "bestlooks.looks": {
        "Rows": {"__init__": ("self", "rows")},
        "Curve": {"__init__": ("self", "low", "high", "polys")},
        "Design": {"__init__": ("self", "places", "shares"), "__eq__": ("self", "other")},
        "Sum": {"__init__": ("self", "places", "numbers")},
        "Hidden": {"__init__": ("self", "z")},
    },
    "bestlooks.signs": {
        "Split": {"__init__": ("self", "root", "rest", "cuts")},
        "Below": {"__init__": ("self", "place", "number")},
        "Floor": {"__init__": ("self", "number", "split", "place")},
        "Capped": {"__init__": ("self", "split")},
        "Over": {"__init__": ("self", "place", "number")},
    },
    "bestlooks.orders": {
        "NoWorse": {"__init__": ("self", "squares")},
        "Worse": {"__init__": ("self", "number", "mine", "theirs")},
        "NoRatio": {"__init__": ("self", "number")},
        "RatioTold": {"__init__": ("self", "upper", "squares", "number")},
    },
    "bestlooks.lists": {
        "Best": {"__init__": ("self", "size", "design", "z")},
        "Lost": {"__init__": ("self", "many", "indices", "z")},
    },
    "bestlooks.curves": {
        "Near": {"__init__": ("self", "design", "z", "splits")},
    },
    "bestlooks.wholes": {
        "Whole": {"__init__": ("self", "design", "over", "paper")},
        "Flat": {"__init__": ("self", "z")},
        "Peak": {"__init__": ("self", "number", "place")},
        "Sure": {"__init__": ("self", "design", "rest")},
        "Spare": {"__init__": ("self", "whole")},
    },
    "bestlooks.spreads": {
        "Untold": {"__init__": ("self", "index", "hidden")},
        "LeastSum": {"__init__": ("self", "design", "total", "rows", "bound", "paper")},
        "Worst": {"__init__": ("self", "design", "least", "table", "bound", "paper")},
    },
    "bestlooks.ovals": {
        "Oval": {"__init__": ("self", "middle", "form"), "__eq__": ("self", "other")},
        "Least": {"__init__": ("self", "oval", "shares")},
    },
    "bestlooks.counts": {
        "MostDet": {"__init__": ("self", "det", "counts", "tree")},
        "LeastSpread": {"__init__": ("self", "spread", "counts", "tree")},
        "Enough": {"__init__": ("self", "many", "counts", "tree")},
        "TooFew": {"__init__": ("self", "tree")},
    },
    "bestlooks.rivals": {
        "Parted": {"__init__": ("self", "miss", "design", "t")},
    },
    "bestlooks.desk": {
        "Desk": {
            "__init__": ("self", "text=''"),
            "put": ("self", "text"),
            "drop": ("self", "name"),
            "rename": ("self", "name", "new"),
            "keep": ("self", "promise"),
            "release": ("self", "promise"),
            "attempt": ("self", "action"),
            "trial": ("self", "action"),
            "undo": ("self",),
            "redo": ("self",),
            "lines": ("self",),
            "names": ("self",),
            "promises": ("self",),
            "get": ("self", "name"),
            "kept": ("self", "promise"),
            "broken": ("self",),
            "__enter__": ("self",),
            "__exit__": ("self", "kind", "value", "trace"),
        },
    },
}


def parameters(function):
    """The names of the parameters, each with its default value, if it has one."""
    return tuple(str(parameter) for parameter in inspect.signature(function).parameters.values())


class Interface(unittest.TestCase):
    def test_functions(self):
        for place, functions in FUNCTIONS.items():
            module = importlib.import_module(place)
            for name, expected in functions.items():
                function = getattr(module, name)
                self.assertTrue(inspect.isfunction(function), name)
                self.assertEqual(function.__module__, place, name)
                self.assertEqual(parameters(function), expected, name)

    def test_classes(self):
        for place, classes in CLASSES.items():
            module = importlib.import_module(place)
            for name, methods in classes.items():
                self.assertTrue(inspect.isclass(getattr(module, name)), name)
                self.assertEqual(getattr(module, name).__module__, place, name)
                for method, expected in methods.items():
                    self.assertEqual(parameters(vars(getattr(module, name))[method]), expected, (name, method))


if __name__ == "__main__":
    unittest.main()
