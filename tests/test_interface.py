"""The names, arguments and places of the document's interface."""

import importlib
import inspect
import unittest

FUNCTIONS = {
    "cutrelays.names": {"is_integer": ["thing"], "is_name": ["thing"]},
    "cutrelays.sendings": {
        "is_sending": ["thing"],
        "reading": ["sending"],
        "troubles": ["sending"],
        "whole_sending": ["meant", "way", "body"],
        "ordered": ["sendings"],
    },
}


class Interface(unittest.TestCase):
    def test_functions(self):
        for place, functions in FUNCTIONS.items():
            module = importlib.import_module(place)
            for name, arguments in functions.items():
                with self.subTest(place=place, name=name):
                    function = getattr(module, name)
                    self.assertTrue(inspect.isfunction(function))
                    self.assertEqual(function.__module__, place)
                    self.assertEqual(list(inspect.signature(function).parameters), arguments)


if __name__ == "__main__":
    unittest.main()
