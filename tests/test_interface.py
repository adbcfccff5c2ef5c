"""The names, arguments and places of the document's interface."""

import importlib
import inspect
import unittest

FUNCTIONS = {
    "cutrelays.names": {"is_integer": ["thing"], "is_name": ["thing"]},
    "cutrelays.sendings": {
        "is_sending": ["thing"],
        "reading": ["sending"],
        "troubles": ["sending"],
        "whole_sending": ["meant", "way", "body"],
        "ordered": ["sendings"],
    },
    "cutrelays.relays": {
        "is_relay": ["thing"],
        "made": ["hold", "over", "whole", "stream", "cut", "wait", "limit", "rest"],
        "is_long": ["relay", "units"],
        "relayed": ["relay", "sending"],
    },
    "cutrelays.chains": {
        "passed": ["chain", "sending"],
        "run_troubles": ["chain", "sending"],
        "read_behind": ["chain", "sending"],
        "words_of": ["chain", "sending"],
    },
    "cutrelays.standings": {
        "bounds_of": ["relays"],
        "standing": ["sending", "bounds"],
        "is_standing": ["thing", "bounds"],
        "standings": ["bounds"],
        "how_many": ["bounds"],
    },
    "cutrelays.tables": {"first_difference": ["one", "other"], "are_alike": ["one", "other"]},
    "cutrelays.products": {
        "products": ["kinds"],
        "product_of": ["kinds", "places"],
        "multiplication": ["kinds"],
        "power_of": ["kinds", "place", "n"],
    },
    "cutrelays.senders": {
        "is_sender": ["thing"],
        "sent": ["sender", "meant", "units"],
        "starts": ["senders", "bounds"],
    },
    "cutrelays.safety": {
        "occurring": ["kinds", "links", "senders"],
        "reason": ["kinds", "links", "senders", "thing"],
        "bad_chain": ["kinds", "links", "senders", "unwanted"],
        "are_safe": ["kinds", "links", "senders", "unwanted"],
        "closed_list": ["kinds", "links", "senders", "unwanted"],
    },
}
# Of each class its arguments, and its methods with theirs (but for the object itself).
CLASSES = {
    "cutrelays.tables": {
        "Table": (["chain", "bounds"], {
            "empty": ["bounds"], "__getitem__": 1, "__call__": 1, "__contains__": 1, "__len__": 0, "__mul__": 1, "__pow__": 1,
            "__eq__": 1,
        }),
    },
}


class Interface(unittest.TestCase):
    def test_functions(self):
        for place, functions in FUNCTIONS.items():
            module = importlib.import_module(place)
            for name, arguments in functions.items():
                with self.subTest(place=place, name=name):
                    function = getattr(module, name)
                    self.assertTrue(inspect.isfunction(function))
                    self.assertEqual(function.__module__, place)
                    self.assertEqual(list(inspect.signature(function).parameters), arguments)

    def test_classes(self):
        for place, classes in CLASSES.items():
            module = importlib.import_module(place)
            for name, (arguments, methods) in classes.items():
                made = getattr(module, name)
                self.assertTrue(inspect.isclass(made))
                self.assertEqual(made.__module__, place)
                self.assertEqual(list(inspect.signature(made).parameters), arguments)
                for method, told in methods.items():
                    with self.subTest(name=name, method=method):
                        # Defined in the class itself, not only in one above it.
                        self.assertIn(method, vars(made))
                        found = list(inspect.signature(getattr(made, method)).parameters)
                        if isinstance(told, int):
                            self.assertEqual(len(found), told + 1)
                        else:
                            self.assertEqual(found, told)


if __name__ == "__main__":
    unittest.main()
