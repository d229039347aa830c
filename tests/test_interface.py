"""The interface: names and arguments as the document tells them."""
import importlib
import inspect
import unittest

from manyquills.hand import Hand

FUNCTIONS = {
    "tags": {"later": ["one", "other"], "fresh": ["rows", "number"]},
    "sheet": {
        "heard": ["rows", "slip"], "laid": ["slips"], "words": ["rows"], "block": ["rows", "tag"],
        "stretches": ["rows"],
    },
    "lines": {"shown": ["slip"], "read": ["line"]},
    "hand": {
        "written": ["rows", "number", "place", "signs"], "rubbed": ["rows", "place", "many"], "Hand": ["number"],
    },
    "story": {name: ["many", "deeds"] for name in ("story", "held", "ends", "texts")},
}

METHODS = {"hear": ["slip"], "write": ["place", "signs"], "rub": ["place", "many"]}


class Interface(unittest.TestCase):
    def assert_arguments(self, called, names):
        parameters = inspect.signature(called).parameters.values()
        self.assertEqual([parameter.name for parameter in parameters], names, called)
        self.assertEqual({parameter.default for parameter in parameters}, {inspect.Parameter.empty}, called)

    def test_functions(self):
        for module, functions in FUNCTIONS.items():
            for name, names in functions.items():
                self.assert_arguments(getattr(importlib.import_module("manyquills." + module), name), names)

    def test_methods(self):
        for name, names in METHODS.items():
            self.assert_arguments(getattr(Hand(1), name), names)

    def test_fields(self):
        self.assertEqual(sorted(vars(Hand(3))), ["number", "rows", "slips"])
