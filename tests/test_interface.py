"""The names, arguments and places of the document's interface."""

import importlib
import inspect
import unittest

FUNCTIONS = {
    "cutrelays.names": {"is_integer": ["thing"], "is_name": ["thing"]},
    "cutrelays.sendings": {
        "is_sending": ["thing"],
        "reading": ["sending"],
        "troubles": ["sending"],
        "whole_sending": ["meant", "way", "body"],
        "ordered": ["sendings"],
    },
    "cutrelays.relays": {
        "is_relay": ["thing"],
        "made": ["hold", "over", "whole", "stream", "cut", "wait", "limit", "rest"],
        "is_long": ["relay", "units"],
        "relayed": ["relay", "sending"],
    },
    "cutrelays.chains": {
        "passed": ["chain", "sending"],
        "run_troubles": ["chain", "sending"],
        "read_behind": ["chain", "sending"],
        "words_of": ["chain", "sending"],
    },
    "cutrelays.standings": {
        "bounds_of": ["relays"],
        "standing": ["sending", "bounds"],
        "is_standing": ["thing", "bounds"],
        "standings": ["bounds"],
        "how_many": ["bounds"],
    },
    "cutrelays.tables": {"first_difference": ["one", "other"], "are_alike": ["one", "other"]},
    "cutrelays.products": {
        "products": ["kinds"],
        "product_of": ["kinds", "places"],
        "multiplication": ["kinds"],
        "power_of": ["kinds", "place", "n"],
    },
    "cutrelays.senders": {
        "is_sender": ["thing"],
        "sent": ["sender", "meant", "units"],
        "starts": ["senders", "bounds"],
    },
    "cutrelays.safety": {
        "occurring": ["kinds", "links", "senders"],
        "reason": ["kinds", "links", "senders", "thing"],
        "bad_chain": ["kinds", "links", "senders", "unwanted"],
        "are_safe": ["kinds", "links", "senders", "unwanted"],
        "closed_list": ["kinds", "links", "senders", "unwanted"],
    },
    "cutrelays.judges": {
        "shows_bad": ["kinds", "links", "senders", "unwanted", "thing"],
        "shows_closed": ["kinds", "links", "senders", "unwanted", "thing"],
    },
    "cutrelays.contexts": {
        "pushed_pair": ["one", "other", "bounds"],
        "parting": ["kinds", "senders", "one", "other"],
        "likeness": ["kinds", "senders", "one", "other"],
        "are_alike_everywhere": ["kinds", "senders", "one", "other"],
        "shows_parting": ["kinds", "senders", "one", "other", "thing"],
        "shows_likeness": ["kinds", "senders", "one", "other", "thing"],
    },
    "cutrelays.mends": {
        "choices": ["kinds", "changes"],
        "price_of": ["changes", "choice"],
        "mended": ["kinds", "changes", "choice"],
        "cheapest": ["kinds", "links", "senders", "unwanted", "changes"],
        "shows_cheapest": ["kinds", "links", "senders", "unwanted", "changes", "thing"],
    },
    "cutrelays.live": {"is_event": ["thing"], "events_of": ["sending", "pieces", "time"]},
    "cutrelays.texts": {
        "parse_relay": ["text"],
        "parse_sending": ["text"],
        "parse_senders": ["text"],
        "parse_events": ["text"],
        "format_relay": ["relay"],
        "format_sending": ["sending"],
        "format_senders": ["senders"],
        "format_events": ["events"],
    },
}
# Arguments that are passed by their names.
NAMED = {"made": ["hold", "over", "whole", "stream", "cut", "wait", "limit", "rest"], "events_of": ["time"]}
# Of each class its arguments, and its methods with theirs (but for the object itself), or PROPERTY.
PROPERTY = "property"
CLASSES = {
    "cutrelays.tables": {
        "Table": (["chain", "bounds"], {
            "empty": ["bounds"], "__getitem__": 1, "__call__": 1, "__contains__": 1, "__len__": 0, "__mul__": 1, "__pow__": 1,
            "__eq__": 1,
        }),
    },
    "cutrelays.live": {
        "Live": (["relay"], {"__call__": ["self", "event"], "got": PROPERTY, "sent": PROPERTY}),
        "LiveChain": (["chain"], {
            "__call__": ["self", "event"], "__len__": 0, "got": PROPERTY, "sent": PROPERTY, "sent_at": ["self", "place"],
            "read": ["self"],
        }),
    },
    "cutrelays.net": {
        "Net": (["most"], {
            "guard": PROPERTY, "of": ["operations", "most"], "do": ["self", "operation"], "all_done": ["self", "operations"],
            "undo": ["self"], "redo": ["self"], "notes": ["self"], "__getitem__": 1, "__contains__": 1, "__len__": 0,
            "names": ["self"], "relay_names": ["self"], "chain_of": ["self", "name"], "live": ["self", "name"],
            "bad": ["self", "senders", "unwanted"], "parting": ["self", "name", "relay", "senders"],
            "mend": ["self", "changes", "senders", "unwanted"],
        }),
    },
    "cutrelays.console": {"Console": ([], {"execute": ["self", "line"]})},
}


class Interface(unittest.TestCase):
    def test_functions(self):
        for place, functions in FUNCTIONS.items():
            module = importlib.import_module(place)
            for name, arguments in functions.items():
                with self.subTest(place=place, name=name):
                    function = getattr(module, name)
                    self.assertTrue(inspect.isfunction(function))
                    self.assertEqual(function.__module__, place)
                    found = inspect.signature(function).parameters
                    self.assertEqual(list(found), arguments)
                    named = [one for one in found if found[one].kind == inspect.Parameter.KEYWORD_ONLY]
                    self.assertEqual(named, NAMED.get(name, []))

    def test_classes(self):
        for place, classes in CLASSES.items():
            module = importlib.import_module(place)
            for name, (arguments, methods) in classes.items():
                made = getattr(module, name)
                self.assertTrue(inspect.isclass(made))
                self.assertEqual(made.__module__, place)
                self.assertEqual(list(inspect.signature(made).parameters), arguments)
                for method, told in methods.items():
                    with self.subTest(name=name, method=method):
                        # Defined in the class itself, not only in one above it.
                        self.assertIn(method, vars(made))
                        if told == PROPERTY:
                            self.assertIsInstance(vars(made)[method], property)
                            continue
                        found = list(inspect.signature(getattr(made, method)).parameters)
                        if isinstance(told, int):
                            self.assertEqual(len(found), told + 1)
                        else:
                            self.assertEqual(found, told)


if __name__ == "__main__":
    unittest.main()
