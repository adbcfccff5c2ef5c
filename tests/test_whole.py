"""Points 1 and 2 over the whole program: what is passed stays, what is returned is new, bools are no integers."""

import copy
import importlib
import inspect
import os
import random
import subprocess
import sys
import unittest

from cases import CLOSER, MARKER, SENDERS, SMALL, WORDS
from cutrelays import (
    chains, contexts, judges, live, mends, names, products, relays, safety, senders, sendings, standings, tables, texts,
)
from cutrelays.console import Console
from cutrelays.errors import NoEvent, NoRelay, NoSending, RelayError
from cutrelays.net import Net
from test_interface import FUNCTIONS
from tools import NOTHINGS, PLAIN, deep, random_relay, relay_of, right_sendings

ROOT = os.path.dirname(os.path.dirname(os.path.abspath(__file__)))
KINDS = (MARKER, SMALL)
SENDING = (6, "close", None, 6, "shut")
CHANGES = [(1, PLAIN, 1), (0, relay_of(whole="close"), 4)]
LIKENESS = contexts.likeness((PLAIN,), list(CLOSER), PLAIN, PLAIN)
CHEAPEST = mends.cheapest(KINDS, None, list(CLOSER), ("spills",), CHANGES)

# Right arguments of each function of the interface, and those behind a star by their names.
RIGHT = {
    names.is_integer: [3], names.is_name: ["a"],
    sendings.is_sending: [SENDING], sendings.reading: [SENDING], sendings.troubles: [SENDING],
    sendings.whole_sending: [5, "marks", 4], sendings.ordered: [[SENDING, (1, "length", 1, 1, "open")]],
    relays.is_relay: [PLAIN], relays.made: [{"hold": 4, "rest": "leave"}], relays.is_long: [PLAIN, 4],
    relays.relayed: [SMALL, SENDING],
    chains.passed: [KINDS, SENDING], chains.run_troubles: [KINDS, SENDING], chains.read_behind: [KINDS, SENDING],
    chains.words_of: [KINDS, SENDING],
    standings.bounds_of: [KINDS], standings.standing: [SENDING, [0, 5]], standings.is_standing: [SENDING, [0, 5]],
    standings.standings: [[0, 5]], standings.how_many: [[0, 5]],
    tables.first_difference: [KINDS, KINDS[:1]], tables.are_alike: [KINDS, KINDS[:1]],
    products.products: [KINDS], products.product_of: [KINDS, (0, 1)], products.multiplication: [KINDS],
    products.power_of: [KINDS, 0, 9],
    senders.is_sender: [("close", "none")], senders.sent: [("close", "shut"), 5, 3], senders.starts: [list(CLOSER), [0, 5]],
    safety.occurring: [KINDS, None, list(CLOSER)],
    safety.reason: [KINDS, None, list(CLOSER), (0, (6, "marks", None, 6, "mark"))],
    safety.bad_chain: [KINDS, None, list(CLOSER), ("spills",)], safety.are_safe: [KINDS, None, list(CLOSER), ("spills",)],
    safety.closed_list: [KINDS, None, list(CLOSER), ("waits",)],
    judges.shows_bad: [KINDS, None, list(CLOSER), ("spills",), ((0, 1), SENDING)],
    judges.shows_closed: [KINDS, (), list(CLOSER), ("spills",), []],
    contexts.pushed_pair: [SENDING, None, [0, 3]], contexts.parting: [KINDS, list(CLOSER), PLAIN, MARKER],
    contexts.likeness: [(PLAIN,), list(CLOSER), PLAIN, PLAIN],
    contexts.are_alike_everywhere: [KINDS, list(CLOSER), PLAIN, MARKER],
    contexts.shows_parting: [KINDS, list(CLOSER), PLAIN, MARKER, ((), SENDING, (1,))],
    contexts.shows_likeness: [(PLAIN,), list(CLOSER), PLAIN, PLAIN, LIKENESS],
    mends.choices: [KINDS, list(CHANGES)], mends.price_of: [list(CHANGES), (0, 1)], mends.mended: [KINDS, list(CHANGES), (0, 1)],
    mends.cheapest: [KINDS, None, list(CLOSER), ("spills",), list(CHANGES)],
    mends.shows_cheapest: [KINDS, None, list(CLOSER), ("spills",), list(CHANGES), CHEAPEST],
    live.is_event: [("mark",)], live.events_of: [SENDING, (2, 4), {"time": True}],
    texts.parse_relay: ["hold 4"], texts.parse_sending: ["5 close 3 shut"], texts.parse_senders: ["close none"],
    texts.parse_events: ["head marks, units 3"], texts.format_relay: [PLAIN], texts.format_sending: [SENDING],
    texts.format_senders: [list(CLOSER)], texts.format_events: [[("head", "marks", None), ("units", 3)]],
}
# Of those that accept any object, the places of such arguments.
ANY = {
    names.is_integer: [0], names.is_name: [0], sendings.is_sending: [0], relays.is_relay: [0], relays.relayed: [0, 1],
    chains.passed: [0, 1], chains.run_troubles: [0, 1], chains.read_behind: [0, 1], chains.words_of: [0, 1],
    standings.bounds_of: [0], standings.standing: [0, 1], standings.is_standing: [0], standings.standings: [0],
    standings.how_many: [0], tables.first_difference: [0, 1], tables.are_alike: [0, 1], products.products: [0],
    products.product_of: [0], products.multiplication: [0], products.power_of: [0], senders.is_sender: [0], senders.sent: [0],
    senders.starts: [0, 1], safety.occurring: [0, 1, 2], safety.reason: [0, 1, 2, 3], safety.bad_chain: [0, 1, 2, 3],
    safety.are_safe: [0, 1, 2, 3], safety.closed_list: [0, 1, 2, 3], judges.shows_bad: [0, 1, 2, 3, 4],
    judges.shows_closed: [0, 1, 2, 3, 4], contexts.pushed_pair: [0, 1, 2], contexts.parting: [0, 1, 2, 3],
    contexts.likeness: [0, 1, 2, 3], contexts.are_alike_everywhere: [0, 1, 2, 3], contexts.shows_parting: [0, 1, 2, 3, 4],
    contexts.shows_likeness: [0, 1, 2, 3, 4], mends.choices: [0, 1], mends.mended: [0, 1, 2], mends.cheapest: [0, 1, 2, 3, 4],
    mends.shows_cheapest: [0, 1, 2, 3, 4, 5], live.is_event: [0],
}


def called(function, arguments):
    """Return what a function returns, as a list if it generates."""
    named = arguments[-1] if isinstance(arguments[-1], dict) and function in (relays.made, live.events_of) else {}
    told = function(*(arguments[:-1] if named else arguments), **named)
    return list(told) if inspect.isgenerator(told) else told


def spoil(thing):
    """Change each list and dict of an object, however deep."""
    if isinstance(thing, (list, tuple)):
        for part in thing:
            spoil(part)
    if isinstance(thing, list):
        thing.append("spoilt")
        thing.reverse()
    if isinstance(thing, dict):
        for part in thing.values():
            spoil(part)
        thing["spoilt"] = 1


def outcome(call):
    """Return what a call returns, or the error's class and fields."""
    try:
        return call()
    except RelayError as error:
        return (type(error), vars(error))


class Functions(unittest.TestCase):
    def test_all_functions_of_the_interface_are_here(self):
        there = {getattr(importlib.import_module(place), name) for place, functions in FUNCTIONS.items() for name in functions}
        self.assertEqual(set(RIGHT), there)

    def test_what_is_passed_stays_and_what_is_returned_is_new(self):
        for function, arguments in RIGHT.items():
            with self.subTest(function=function.__name__):
                passed = copy.deepcopy(arguments)
                first = called(function, passed)
                self.assertEqual(passed, arguments)
                expected = copy.deepcopy(first)
                spoil(first)
                self.assertEqual(passed, arguments)
                self.assertEqual(called(function, passed), expected)
                spoil(passed)
                self.assertEqual(called(function, copy.deepcopy(arguments)), expected)

    def test_what_is_returned_shares_no_list_with_what_was_passed(self):
        for function, arguments in RIGHT.items():
            passed = copy.deepcopy(arguments)
            first = called(function, passed)
            expected = copy.deepcopy(first)
            spoil(passed)
            with self.subTest(function=function.__name__):
                self.assertEqual(first, expected)

    def test_any_object_is_taken_or_refused_and_stays(self):
        things = NOTHINGS + [None, (), [], deep(19), [deep(18)], (deep(18),) * 3, [1] * 1000, {k: [k] for k in range(100)},
                             ("x",) * 5000, [()] * 1000, SENDING, PLAIN, KINDS, list(CLOSER), ("spills",), [0, 5]]
        for function, places in ANY.items():
            for place in places:
                for thing in things:
                    arguments = copy.deepcopy(RIGHT[function])
                    arguments[place] = copy.deepcopy(thing)
                    before = copy.deepcopy(arguments)
                    with self.subTest(function=function.__name__, place=place, thing=thing):
                        outcome(lambda: called(function, arguments))
                        self.assertEqual(arguments, before)

    def test_bools_are_no_integers(self):
        for word in (True, False):
            self.assertIs(names.is_integer(word), False)
            self.assertIs(sendings.is_sending((word, "marks", None, 0, "mark")), False)
            self.assertIs(sendings.is_sending((1, "marks", None, word, "mark")), False)
            self.assertIs(relays.is_relay((word,) + PLAIN[1:]), False)
            self.assertIs(relays.is_relay(PLAIN[:6] + (word, "shut")), False)
            self.assertIs(live.is_event(("units", word)), False)
            self.assertIs(live.is_event(("head", "length", word)), False)
            self.assertIs(standings.is_standing((1, "length", 1, word, "open"), [0]), False)
            self.assertIs(judges.shows_bad((SMALL, SMALL), None, CLOSER, ("lost",), ((word,), SENDING)), False)

    def test_a_result_that_is_not_described_is_none(self):
        net = Net()
        for call in (lambda: net.do(("relay", "a", PLAIN)), lambda: net.all_done([]), net.undo, net.redo):
            self.assertIsNone(call())

    def test_errors_are_value_errors(self):
        for call in (lambda: relays.relayed(None, SENDING), lambda: Net().undo(), lambda: Console().execute("x"),
                     lambda: texts.parse_relay("x"), lambda: live.LiveChain(None)):
            with self.assertRaises(ValueError) as caught:
                call()
            self.assertIsInstance(caught.exception, RelayError)

    def test_the_same_every_time(self):
        # Another hash seed gives another order of sets of strings, and must not give another answer.
        code = ("import sys; sys.path[:0] = sys.argv[1:3]\n"
                "import copy, test_whole as whole\n"
                "for function, arguments in whole.RIGHT.items():\n"
                "    print(function.__name__, whole.called(function, copy.deepcopy(arguments)))\n")
        told = set()
        for seed in ("0", "1", "7", "1234"):
            done = subprocess.run([sys.executable, "-c", code, ROOT, os.path.join(ROOT, "tests")], capture_output=True, text=True,
                                  env={"PYTHONHASHSEED": seed, "PYTHONDONTWRITEBYTECODE": "1"})
            self.assertEqual(done.returncode, 0, done.stderr)
            told.add(done.stdout)
        self.assertEqual(len(told), 1)
        self.assertEqual(len(told.pop().split("\n")), len(RIGHT) + 1)


class Objects(unittest.TestCase):
    def test_tables(self):
        bounds = [0, 5]
        table = tables.Table(KINDS, bounds)
        expected = tables.Table(KINDS, (0, 5))
        bounds.append(9)
        self.assertEqual([table.bounds, table.chain], [(0, 5), KINDS])
        self.assertTrue(table == expected)
        for thing in ([bounds], {"a": bounds}, bounds):
            before = copy.deepcopy(thing)
            self.assertIs(thing in table, False)
            with self.assertRaises(NoSending):
                table[thing]
            with self.assertRaises(NoSending):
                table(thing)
            self.assertEqual(thing, before)

    def test_live_relays_and_chains(self):
        for line in (live.Live(relay_of(hold=0)), live.LiveChain((relay_of(hold=0),)), live.LiveChain(())):
            told = [line(("head", "marks", None)), line(("units", 3))]
            spoil(told)
            self.assertEqual(line.sent, ("marks", None, 3, "open"))
            self.assertEqual(line(("units", 3)), [("units", 3)])
            for thing in (["units", 3], [("mark",)], {"mark": []}, ("units", [3])):
                before = copy.deepcopy(thing)
                with self.assertRaises(NoEvent):
                    line(thing)
                self.assertEqual(thing, before)
            self.assertEqual(line.got, ("marks", None, 6, "open"))
        chain = [PLAIN]
        with self.assertRaises(NoRelay):
            live.LiveChain(chain)
        self.assertEqual(chain, [PLAIN])

    def test_nets(self):
        operations = [("relay", "a", MARKER), ("relay", "b", SMALL), ("chain", "ab", ("a", "b")), ("guard", (), ("lost",))]
        net = Net.of(operations)
        expected = copy.deepcopy(self.shown(net))
        spoil(operations)
        self.assertEqual(self.shown(net), expected)
        spoil(self.shown(net))
        self.assertEqual(self.shown(net), expected)
        changes, some = [("b", PLAIN, 1)], list(CLOSER)
        told = [net.bad(some, ("spills",)), net.parting("a", PLAIN, some), net.mend(changes, some, ("spills",))]
        spoil([changes, some, told])
        self.assertEqual(net.notes()[-1], ("relays", (("b", PLAIN),)))
        net.undo()
        self.assertEqual(self.shown(net), expected)
        for thing in NOTHINGS + [[["relay", "a", []]], {"a": [1]}, ("relay", [1], {"a": []}), ("relays", ([1],)), ("chain", "a", [[]]),
                                 ("guard", [[]], []), ("drop", [1])]:
            before = copy.deepcopy(thing)
            for call in (net.do, net.all_done, net.chain_of, net.live, lambda one: net[one]):
                if thing not in ([], "a"):
                    self.assertIsInstance(outcome(lambda: call(thing)), tuple)
            self.assertEqual(thing, before)
        self.assertEqual(self.shown(net), expected)

    def shown(self, net):
        return [net.names(), net.relay_names(), net.notes(), net.guard, [net[name] for name in net.names()]]

    def test_consoles(self):
        console = Console()
        for line in ["relay a : hold 0", "open a", "feed 0 : head marks"]:
            console.execute(line)
        for line in ["relay a : hold", "feed 0 : units 1, head marks", "drop x", "guard x : none", "x", "feed 1 : none", "open x"]:
            with self.assertRaises(RelayError):
                console.execute(line)
        self.assertEqual([console.execute(line) for line in ["names", "count", "feed 0 : units 1"]], ["a", "1", "head marks, units 1"])


class Program(unittest.TestCase):
    def test_what_safe_kinds_promise(self):
        # What is safe by closed_list has no trouble in any chain, live or not, and what is bad has one.
        chance, told = random.Random(311), {True: 0, False: 0}
        for _ in range(150):
            kinds = tuple(random_relay(chance, [None, 0, 2]) for _ in range(chance.randrange(1, 3)))
            some, word = chance.sample(SENDERS, 1), chance.choice(WORDS)
            safe = safety.are_safe(kinds, None, some, (word,))
            told[safe] += 1
            right = [one for one in right_sendings(4) if senders.can_come(some, one)]
            if not safe:
                chain, sending = safety.bad_chain(kinds, None, some, (word,))
                right.append(sending)
            found = False
            for sending in right:
                for many in range(1, 5) if safe else [len(chain)]:
                    places = tuple(chance.choices(range(len(kinds)), k=many)) if safe else chain
                    row = tuple(kinds[place] for place in places)
                    found = found or word in [told_word for _, told_word in chains.run_troubles(row, sending)]
                    line = live.LiveChain(row)
                    for event in live.events_of(sending, (1,) * sending[3], time=True):
                        line(event)
                    self.assertEqual(line.read(), chains.read_behind(row, sending))
            self.assertIs(found, not safe)
        self.assertGreater(min(told.values()), 20)


if __name__ == "__main__":
    unittest.main()
