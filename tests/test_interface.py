"""The interface: names, arguments in their order, and where each is defined."""

import importlib
import inspect
import unittest

from tests.helper import REFUSALS

# Module by module: class by class the arguments with which it is made, and those of its methods.
CLASSES = {
    "whomay.errors": {
        "WhoError": (None, {"told": []}),
        **{kind: ([name for name, worth in fields], {}) for kind, fields in REFUSALS},
    },
    "whomay.patterns": {
        "Bar": (["name", "variables", "conditions"], {"__eq__": None, "__str__": None}),
        "Rule": (["name", "variables", "conditions", "gives", "by"], {"__eq__": None, "__str__": None}),
        "Making": (["maker", "made", "down", "up"], {"__eq__": None, "__str__": None}),
    },
    "whomay.schemes": {
        "Scheme": (["sorts", "words", "makings=None", "rules=None", "bars=None"], {
            "sorts": [], "words": [], "makings": [], "rules": [], "bars": [],
            "rule": ["name"], "bar": ["name"],
            "with_rule": ["rule"], "with_bar": ["bar"], "with_making": ["making"],
            "without_rule": ["name"], "without_bar": ["name"], "without_making": ["maker", "made"],
        }),
    },
    "whomay.houses": {
        "House": (["scheme"], {
            "enter": ["name", "sort", "awake=True"],
            "give": ["x", "word", "y"], "take": ["x", "word", "y"], "wake": ["x"], "sleep": ["x"],
            "things": [], "held": [], "sort_of": ["x"], "is_awake": ["x"], "holds": ["x", "word", "y"],
            "scheme": [], "twin": [], "__len__": None,
        }),
    },
    "whomay.finish": {
        "Finish": (["house", "without=None"], {
            "things": [], "child": ["name", "sort"], "held": [], "round_of": ["x", "word", "y"],
            "reason": ["x", "word", "y"], "way": [], "end": [],
        }),
    },
    "whomay.keeper": {
        "Keeper": (["scheme"], {
            "enter": ["name", "sort", "awake=True"], "give": ["x", "word", "y"], "take": ["x", "word", "y"],
            "wake": ["x"], "sleep": ["x"], "add_rule": ["rule"], "add_bar": ["bar"], "add_making": ["making"],
            "drop_rule": ["name"], "drop_bar": ["name"], "drop_making": ["maker", "made"], "play": ["deed"],
            "back": [], "house": [], "scheme": [], "many": [],
        }),
    },
    "whomay.desk": {"Desk": (["rows"], {"tell": ["row"]})},
}

# Module by module: function by function its arguments.
FUNCTIONS = {
    "whomay.deeds": {"play": ["house", "deed"], "after": ["house", "deeds"], "first_refused": ["house", "deeds"]},
    "whomay.matching": {"matches": ["house", "pattern"], "open_deeds": ["house"]},
    "whomay.finish": {"images": ["finish", "deeds"]},
    "whomay.ways": {
        "may": ["house", "x", "word", "y"], "how": ["house", "x", "word", "y"], "who": ["house", "word", "y"],
        "stones": ["house", "x", "word", "y"],
    },
    "whomay.papers": {
        "paper_of": ["house"], "fault": ["house", "paper"], "keeps_out": ["house", "paper", "x", "word", "y"],
        "brings": ["house", "deeds", "x", "word", "y"],
    },
    "whomay.least": {
        "helpers": ["house", "x", "word", "y"], "guards": ["house", "x", "word", "y"],
        "cure": ["house", "x", "word", "y"],
    },
    "whomay.compare": {
        "sort_rows": ["scheme", "rule"], "least_house": ["scheme", "rule", "sorts"], "follows": ["scheme", "rule"],
        "freer": ["one", "other"], "carried": ["one", "other"], "leaner": ["scheme"],
    },
    "whomay.carrying": {"translated": ["house", "deeds", "other"]},
    "whomay.fences": {"fence": ["scheme", "start"], "sorts_held": ["house"]},
    "whomay.texts": {
        "scheme_rows": ["scheme"], "house_rows": ["house"], "read_scheme": ["rows"], "read_house": ["scheme", "rows"],
        "read_part": ["row"], "deed_row": ["deed"], "read_deed": ["row"],
    },
}


def all_arguments(function):
    """The function's arguments, each as it is written."""
    return [str(part) for part in inspect.signature(function).parameters.values()]


def arguments(method):
    """The method's arguments but its own object, each as it is written."""
    return all_arguments(method)[1:]


class Interface(unittest.TestCase):
    def test_classes_and_methods(self):
        for module_name, classes in CLASSES.items():
            module = importlib.import_module(module_name)
            for class_name, (wanted, methods) in classes.items():
                with self.subTest(module=module_name, name=class_name):
                    made = getattr(module, class_name)
                    self.assertEqual(made.__module__, module_name)
                    if wanted is not None:
                        self.assertEqual(arguments(made.__init__), wanted)
                    for method, method_wanted in methods.items():
                        self.assertIn(method, vars(made))
                        if method_wanted is not None:
                            self.assertEqual(arguments(vars(made)[method]), method_wanted)

    def test_functions(self):
        for module_name, functions in FUNCTIONS.items():
            module = importlib.import_module(module_name)
            for name, wanted in functions.items():
                with self.subTest(module=module_name, name=name):
                    self.assertEqual(getattr(module, name).__module__, module_name)
                    self.assertEqual(all_arguments(getattr(module, name)), wanted)


if __name__ == "__main__":
    unittest.main()
