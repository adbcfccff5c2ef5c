"""Point 17: nets, their operations and guards, undo and redo, mends, and their live chains."""

import copy
import itertools
import random
import unittest

from cases import CLOSER, ENDER, MARKER, REFUSER, SENDERS, SMALL, WORDS, WRONG_SENDERS, WRONG_WORDS
from cutrelays.contexts import parting
from cutrelays.errors import (
    Mismatch, NoChange, NoMark, NoMend, NoName, NoRelay, NoSender, NoWord, RelayError, TooMany, Unsafe,
)
from cutrelays.live import LiveChain
from cutrelays.mends import cheapest
from cutrelays.net import Net
from cutrelays.safety import bad_chain
from tools import NOTHINGS, PLAIN, deep, random_relay, relay_of

BAD = (6, "close", None, 6, "shut")
GUARD = ("guard", (("close", "none"),), ("spills",))
DRAIN = relay_of(limit=5, rest="drain")
NO_RELAYS = NOTHINGS + [None, (), list(PLAIN), PLAIN[:7], (PLAIN,), (True,) + PLAIN[1:]]
NO_NAMES = NOTHINGS[:7] + ["", "A", "1a", "a b", "abcdefghi", "a-", " a", "a\n", None, 1, ("a",), ["a"], {"a": 1}, b"a", deep(20)]
NO_NAMES = [thing for thing in NO_NAMES if thing not in ("a", b"a")]


def put(*names, relay=PLAIN):
    """Return operations that put a relay under each name."""
    return [("relay", name, relay) for name in names]


def simple():
    """Return a net with two relays and the chain of both."""
    return Net.of([("relay", "a", MARKER), ("relay", "b", SMALL), ("chain", "ab", ("a", "b"))])


def shown(net):
    """Return all that a net tells of itself (but for what can be undone and done again)."""
    names = net.names()
    return (names, [net[name] for name in names], len(net), net.relay_names(), [net.chain_of(name) for name in names],
            net.guard, net.notes(), net.most)


def walked(net):
    """Return all states to which a net can be undone and done again, and leave it as it is."""
    found, undone, redone = [shown(net)], 0, 0
    while True:
        try:
            net.redo()
        except NoMark:
            break
        redone += 1
        found.append(shown(net))
    for _ in range(redone):
        net.undo()
    while True:
        try:
            net.undo()
        except NoMark:
            break
        undone += 1
        found.append(shown(net))
    for _ in range(undone):
        net.redo()
    return found


class NetCase(unittest.TestCase):
    def refused(self, error, call, *fields, net=None):
        """Check that a call raises an error with such fields, and that the net is as before."""
        before = None if net is None else walked(net)
        with self.assertRaises(error) as caught:
            call()
        self.assertIs(type(caught.exception), error)
        names = {TooMany: ["limit"], NoRelay: ["place"], Unsafe: ["chain", "sending"]}.get(error, [])
        self.assertEqual(tuple(getattr(caught.exception, name) for name in names), fields)
        if net is not None:
            self.assertEqual(walked(net), before)

    def undoable(self, net, operation, error, *fields):
        """Check that an operation is refused, also behind an undo, whose operation can still be done again."""
        with self.subTest(operation=operation):
            self.refused(error, lambda: net.do(operation), *fields, net=net)
            self.refused(error, lambda: net.all_done([operation]), *fields, net=net)


class Beginnings(NetCase):
    def test_a_new_net(self):
        for net, most in ((Net(), 12), (Net(most=1), 1), (Net(most=40), 40), (Net.of([]), 12), (Net.of([], most=3), 3)):
            self.assertEqual(shown(net), ([], [], 0, [], [], None, [], most))
            self.refused(NoMark, net.undo, net=net)
            self.refused(NoMark, net.redo, net=net)

    def test_most_is_passed_by_its_name(self):
        with self.assertRaises(TypeError):
            Net(3)
        with self.assertRaises(TypeError):
            Net.of([], 3)

    def test_nets_are_apart(self):
        one, other = Net(), Net()
        one.do(("relay", "a", PLAIN))
        self.assertEqual([len(one), len(other), "a" in other], [1, 0, False])


class Operations(NetCase):
    def test_each_one(self):
        net = Net()
        operations = [
            ("relay", "a", PLAIN), ("relays", (("b", SMALL), ("c", MARKER), ("b", ENDER))), ("chain", "ab", ("a", "b", "a")),
            ("chain", "none", ()), ("relay", "a", SMALL), ("chain", "ab", ("b",)), ("drop", "a"), ("guard", (), ()),
            ("relays", ()), ("drop", "none"), GUARD,
        ]
        for number, operation in enumerate(operations):
            self.assertIsNone(net.do(operation))
            self.assertEqual(net.notes(), operations[:number + 1])
        self.assertEqual(shown(net)[:6], (["ab", "b", "c"], [("b",), ENDER, MARKER], 3, ["b", "c"], [(ENDER,), (ENDER,), (MARKER,)],
                                          GUARD[1:]))

    def test_operations_of_another_form(self):
        net = simple()
        net.undo()
        forms = NOTHINGS + [
            None, (), ("relay",), ("relay", "d"), ("relay", "d", PLAIN, 0), ("relays",), ("relays", (), ()), ("chain", "d"),
            ("chain", "d", ("a",), 0), ("drop",), ("drop", "a", "b"), ("guard", ()), ("guard",), ("guard", (), (), ()),
            ["relay", "d", PLAIN], ("Relay", "d", PLAIN), ("undo",), ("", "d", PLAIN), (None, "d", PLAIN), (["relay"], "d", PLAIN),
            ({}, "d"), (("relay",), "d", PLAIN), "relay", {"relay": "d"}, (1, 2, 3), (True, "a"), ("names",), [GUARD], (GUARD,),
        ]
        for operation in forms:
            self.undoable(net, operation, Mismatch)

    def test_relay(self):
        net = Net.of(put("a", "b") + [("chain", "c", ("a",))], most=3)
        net.do(("relay", "b", SMALL))
        net.undo()
        for name in NO_NAMES:
            self.undoable(net, ("relay", name, PLAIN), NoName)
            self.undoable(net, ("relay", name, None), NoName)
        for relay in NO_RELAYS:
            self.undoable(net, ("relay", "a", relay), NoRelay, 0)
            self.undoable(net, ("relay", "c", relay), NoRelay, 0)
            self.undoable(net, ("relay", "d", relay), NoRelay, 0)
        self.undoable(net, ("relay", "c", PLAIN), Mismatch)
        self.undoable(net, ("relay", "d", PLAIN), TooMany, 3)
        net.do(("relay", "a", SMALL))
        self.assertEqual([net["a"], net.chain_of("c")], [SMALL, (SMALL,)])

    def test_relays(self):
        net = Net.of(put("a", "b") + [("chain", "c", ("a",))], most=4)
        net.do(("relay", "b", SMALL))
        net.undo()
        pairs = [[("d", PLAIN)], None, "", {}, {"d": PLAIN}, ("d", PLAIN), (["d", PLAIN],), (("d",),), (("d", PLAIN, 0),), (None,),
                 (("d", PLAIN), "ab"), (("A", PLAIN), 1), (("d", None), ["e", PLAIN]), 0, True, ((),), "ab", ("ab", "cd")]
        for thing in pairs:
            self.undoable(net, ("relays", thing), Mismatch)
        for name in NO_NAMES:
            self.undoable(net, ("relays", ((name, None),)), NoName)
            self.undoable(net, ("relays", (("a", SMALL), (name, PLAIN))), NoName)
        for relay in NO_RELAYS:
            self.undoable(net, ("relays", (("c", relay),)), NoRelay, 0)
            self.undoable(net, ("relays", (("a", SMALL), ("b", PLAIN), ("d", relay))), NoRelay, 0)
        self.undoable(net, ("relays", (("a", SMALL), ("c", PLAIN))), Mismatch)
        self.undoable(net, ("relays", (("d", SMALL), ("e", PLAIN))), TooMany, 4)
        # One after the other: the first pair that is refused counts.
        self.undoable(net, ("relays", (("a", None), ("A", PLAIN))), NoRelay, 0)
        self.undoable(net, ("relays", (("A", PLAIN), ("a", None))), NoName)
        self.undoable(net, ("relays", (("c", PLAIN), ("A", None))), Mismatch)
        self.undoable(net, ("relays", (("d", PLAIN), ("e", PLAIN), ("A", None))), TooMany, 4)
        net.do(("relays", (("d", SMALL), ("d", MARKER), ("a", ENDER), ("d", REFUSER))))
        self.assertEqual([net["d"], net["a"], len(net)], [REFUSER, ENDER, 4])
        self.assertEqual(net.notes()[-1], ("relays", (("d", SMALL), ("d", MARKER), ("a", ENDER), ("d", REFUSER))))

    def test_chain(self):
        net = Net.of(put("a", "b") + [("chain", "c", ("a",))], most=3)
        net.do(("chain", "c", ()))
        net.undo()
        for name in NO_NAMES:
            self.undoable(net, ("chain", name, ()), NoName)
            self.undoable(net, ("chain", name, None), NoName)
            self.undoable(net, ("chain", "c", (name,)), NoName)
            self.undoable(net, ("chain", "d", ("a", name)), NoName)
        for names in (["a"], "a", "ab", None, {}, {"a": 1}, 0, True, [], "", deep(20)[0]):
            if not isinstance(names, tuple):
                self.undoable(net, ("chain", "c", names), Mismatch)
                self.undoable(net, ("chain", "a", names), Mismatch)
                self.undoable(net, ("chain", "A", names), NoName)
        for names in (("d",), ("a", "d"), ("c",), ("a",) * 13 + ("c",), ("a",) * 12 + ("A",)):
            self.undoable(net, ("chain", "c", names), NoName)
            self.undoable(net, ("chain", "a", names), NoName)
        for name in ("a", "c", "d"):
            self.undoable(net, ("chain", name, ("a",) * 13), TooMany, 12)
        self.undoable(net, ("chain", "a", ("a",) * 12), Mismatch)
        self.undoable(net, ("chain", "d", ("a",) * 12), TooMany, 3)
        net.do(("chain", "c", ("a", "b") * 6))
        self.assertEqual([net["c"], net.chain_of("c")], [("a", "b") * 6, (PLAIN,) * 12])

    def test_chains_that_name_a_relay_twice_and_the_empty_chain(self):
        net = Net.of(put("a") + [("chain", "aa", ("a", "a")), ("chain", "no", ())])
        self.assertEqual([net.chain_of("aa"), net["aa"], net.chain_of("no"), net["no"]], [(PLAIN, PLAIN), ("a", "a"), (), ()])
        net.do(("relay", "a", SMALL))
        self.assertEqual(net.chain_of("aa"), (SMALL, SMALL))
        self.undoable(net, ("drop", "a"), Mismatch)
        net.do(("drop", "aa"))
        net.do(("drop", "a"))
        self.assertEqual(net.names(), ["no"])

    def test_drop(self):
        net = Net.of(put("a", "b") + [("chain", "c", ("a",))])
        for name in NO_NAMES + ["d", "ab", ("a", "b")]:
            self.undoable(net, ("drop", name), NoName)
        self.undoable(net, ("drop", "a"), Mismatch)
        net.do(("drop", "b"))
        net.do(("drop", "c"))
        net.do(("drop", "a"))
        self.assertEqual(net.names(), [])
        net.do(("chain", "a", ()))
        net.do(("relay", "c", PLAIN))
        self.assertEqual(net.names(), ["a", "c"])

    def test_guard(self):
        net = simple()
        net.undo()
        wrong = [senders for senders in WRONG_SENDERS if senders != ()] + [[("close", "none")], ("close", "none"), (None,)]
        for senders in wrong + [tuple(some) for some in WRONG_SENDERS if isinstance(some, list) and some != []]:
            if not isinstance(senders, tuple) or senders not in ((), tuple(SENDERS)):
                self.undoable(net, ("guard", senders, ("spills",)), NoSender)
                self.undoable(net, ("guard", senders, []), NoSender)
        for unwanted in WRONG_WORDS:
            self.undoable(net, ("guard", (), unwanted), NoWord)
        net.do(("guard", (("close", "none"),) * 2, tuple(WORDS[::-1])))
        self.assertEqual(net.guard, ((("close", "none"),) * 2, tuple(WORDS[::-1])))
        net.do(("guard", (), ()))
        self.assertEqual(net.guard, ((), ()))

    def test_names_too_many(self):
        for most in (1, 2, 12, 40):
            names = [f"n{number}" for number in range(most)]
            net = Net.of(put(*names), most=most)
            for operation in (("relay", "x", PLAIN), ("chain", "x", ()), ("chain", "x", ("n0",)), ("relays", (("x", PLAIN),))):
                self.undoable(net, operation, TooMany, most)
            net.do(("relay", "n0", SMALL))
            net.do(("relays", (("n0", PLAIN),)))
            net.do(("drop", "n0"))
            net.do(("chain", "x", ()))
            self.assertEqual(len(net), most)
            net.do(("chain", "x", ()))
        self.refused(TooMany, lambda: Net.of(put(*"abcdefghijklm")), 12)
        self.assertEqual(len(Net.of(put(*"abcdefghijkl"))), 12)
        self.refused(TooMany, lambda: Net.of(put("a", "b"), most=1), 1)


class Asking(NetCase):
    def test_names(self):
        net = Net.of(put("b", "a", "z9", "a1") + [("chain", "ab", ("a", "b")), ("chain", "a0", ())])
        self.assertEqual(net.names(), ["a", "a0", "a1", "ab", "b", "z9"])
        self.assertEqual(net.relay_names(), ["a", "a1", "b", "z9"])
        self.assertEqual([len(net), net.chain_of("ab"), net.chain_of("z9")], [6, (PLAIN, PLAIN), (PLAIN,)])

    def test_names_of_nothing(self):
        net = simple()
        for thing in NO_NAMES + NOTHINGS[8:] + ["d", "abc", ("a", "b"), ["a", "b"]]:
            with self.subTest(thing=thing):
                self.assertIs(thing in net, False)
                for call in (lambda: net[thing], lambda: net.chain_of(thing), lambda: net.live(thing)):
                    self.refused(NoName, call, net=net)
        for name in ("a", "b", "ab"):
            self.assertIs(name in net, True)

    def test_told_lists_are_new(self):
        net = simple()
        before = walked(net)
        for told in (net.names(), net.relay_names(), net.notes()):
            self.assertIs(type(told), list)
            told.clear()
            told.append("x")
        self.assertEqual(walked(net), before)

    def test_a_net_is_not_gone_through(self):
        with self.assertRaises(TypeError):
            list(simple())


class Histories(NetCase):
    def test_undo_and_redo(self):
        net, states = Net(), []
        operations = put("a", "b") + [("chain", "c", ("a",)), ("relay", "a", SMALL), ("drop", "b"), ("guard", (), ("lost",)),
                                      ("chain", "c", ()), ("relays", (("a", MARKER), ("d", SMALL))), ("guard", (), ())]
        for operation in operations:
            states.append(shown(net))
            net.do(operation)
        states.append(shown(net))
        for number in range(len(operations) - 1, -1, -1):
            self.assertIsNone(net.undo())
            self.assertEqual(shown(net), states[number])
        self.refused(NoMark, net.undo, net=net)
        for number in range(1, len(operations) + 1):
            self.assertIsNone(net.redo())
            self.assertEqual(shown(net), states[number])
        self.refused(NoMark, net.redo, net=net)

    def test_until_the_next_operation(self):
        net = simple()
        net.undo()
        net.undo()
        net.redo()
        net.do(("relay", "c", PLAIN))
        self.refused(NoMark, net.redo, net=net)
        self.assertEqual(net.names(), ["a", "b", "c"])
        net.undo()
        net.redo()
        self.assertEqual(net.names(), ["a", "b", "c"])

    def test_what_is_refused_does_not_count(self):
        net = simple()
        net.undo()
        for operation in (None, ("drop", "x"), ("relay", "a", None)):
            with self.assertRaises(RelayError):
                net.do(operation)
        net.redo()
        self.assertEqual([net["ab"], len(net.notes())], [("a", "b"), 3])
        self.refused(NoMark, net.redo, net=net)

    def test_asking_does_not_count(self):
        net = simple()
        net.undo()
        before = walked(net)
        net.names()
        net.bad(CLOSER, ("spills",))
        net.parting("a", PLAIN, CLOSER)
        net.live("a")(("head", "marks", None))
        self.assertEqual(walked(net), before)

    def test_a_guard_comes_back(self):
        net = Net.of(put("a") + [("guard", (), ("lost",)), ("guard", (("close", "none"),), ())])
        net.undo()
        self.assertEqual(net.guard, ((), ("lost",)))
        net.undo()
        self.assertIsNone(net.guard)
        net.redo()
        net.redo()
        self.assertEqual(net.guard, ((("close", "none"),), ()))

    def test_a_guard_that_is_undone_does_not_guard(self):
        net = Net.of([("relay", "a", MARKER), ("relay", "b", SMALL), ("chain", "a0", ("a",)), GUARD])
        self.undoable(net, ("chain", "ab", ("a", "b")), Unsafe, ("a", "b"), BAD)
        net.undo()
        net.do(("chain", "ab", ("a", "b")))
        self.refused(NoMark, net.redo, net=net)
        self.undoable(net, GUARD, Unsafe, ("a", "b"), BAD)
        net.undo()
        net.do(GUARD)
        net.undo()
        net.redo()
        self.undoable(net, ("chain", "ab", ("a", "b")), Unsafe, ("a", "b"), BAD)


class Lists(NetCase):
    def test_a_list_that_is_done(self):
        net = simple()
        self.assertIsNone(net.all_done(put("c", "d") + [("drop", "c"), GUARD][:1]))
        self.assertEqual([net.names(), len(net.notes())], [["a", "ab", "b", "d"], 6])
        net.undo()
        self.assertEqual(net.names(), ["a", "ab", "b", "c", "d"])

    def test_a_list_of_which_one_is_refused(self):
        right = put("c", "d") + [("chain", "cd", ("c", "d")), ("guard", (), ())]
        for wrong, error, fields in [(("drop", "x"), NoName, ()), (None, Mismatch, ()), (("relay", "c", None), NoRelay, (0,)),
                                     (("chain", "e", ("a",) * 13), TooMany, (12,)), ([("drop", "a")], Mismatch, ())]:
            for at in range(len(right) + 1):
                for undone in range(4):
                    net = simple()
                    for _ in range(undone):
                        net.undo()
                    if not (error is TooMany and undone == 3):
                        operations = right[:at] + [wrong] + right[at:]
                        self.refused(error, lambda: net.all_done(operations), *fields, net=net)

    def test_the_error_is_that_of_the_first_one_that_is_refused(self):
        net = simple()
        self.refused(NoName, lambda: net.all_done([("drop", "x"), None, ("relay", "a", None)]), net=net)
        self.refused(NoRelay, lambda: net.all_done([("relay", "a", None), ("drop", "x")]), 0, net=net)

    def test_a_guard_within_a_list(self):
        net = Net.of([("relay", "a", MARKER), ("relay", "b", SMALL)])
        net.undo()
        net.redo()
        chain = ("chain", "ab", ("a", "b"))
        self.refused(Unsafe, lambda: net.all_done([GUARD, ("relay", "c", PLAIN), chain]), ("a", "b"), BAD, net=net)
        self.refused(Unsafe, lambda: net.all_done([chain, GUARD]), ("a", "b"), BAD, net=net)
        net.all_done([chain, ("relay", "b", DRAIN), GUARD])
        self.assertEqual([net["b"], net.guard], [DRAIN, GUARD[1:]])

    def test_what_is_no_list(self):
        net = simple()
        net.undo()
        for thing in [thing for thing in NOTHINGS if not isinstance(thing, list)] + [None, (), tuple(put("c")), put("c")[0], {}]:
            self.refused(Mismatch, lambda: net.all_done(thing), net=net)
            self.refused(Mismatch, lambda: Net.of(thing))
        for thing in ([[]], [put("c")], [None], [()], put("c") + [put("d")]):
            self.refused(Mismatch, lambda: net.all_done(thing), net=net)
            self.refused(Mismatch, lambda: Net.of(thing))

    def test_the_empty_list(self):
        net = simple()
        net.undo()
        before = walked(net)
        self.assertIsNone(net.all_done([]))
        self.assertEqual(walked(net), before)
        net.redo()
        self.assertIn("ab", net)

    def test_of(self):
        net = Net.of(put("a", "b"), most=2)
        self.assertEqual([type(net), net.most, net.names(), net.notes()], [Net, 2, ["a", "b"], put("a", "b")])
        self.refused(NoName, lambda: Net.of([("drop", "a")]))

    def test_what_is_passed_stays_and_may_be_changed_afterwards(self):
        operations = put("a", "b")
        before = copy.deepcopy(operations)
        net, other = Net.of(operations), Net()
        other.all_done(operations)
        self.assertEqual(operations, before)
        operations.clear()
        for one in (net, other):
            self.assertEqual(one.notes(), before)


class Guards(NetCase):
    def test_an_operation_that_makes_the_net_bad(self):
        net = Net.of([("relay", "a", MARKER), ("relay", "b", DRAIN), ("chain", "ab", ("a", "b")), GUARD])
        self.undoable(net, ("relay", "b", SMALL), Unsafe, ("a", "b"), BAD)
        self.undoable(net, ("relays", (("c", PLAIN), ("b", SMALL))), Unsafe, ("a", "b"), BAD)
        net.do(("relays", (("b", SMALL), ("a", relay_of(whole="close")))))
        self.undoable(net, ("relay", "a", MARKER), Unsafe, ("a", "b"), BAD)
        net.do(("chain", "ab", ("b", "a")))
        net.do(("relay", "a", MARKER))
        self.undoable(net, ("chain", "c", ("a", "b")), Unsafe, ("a", "b"), BAD)
        # The links of several chains make more chains than are named: b, a and a, then b.
        self.undoable(net, ("chain", "aab", ("a", "a", "b")), Unsafe, ("a", "b"), BAD)

    def test_chains_that_share_links(self):
        net = Net.of([("relay", "a", MARKER), ("relay", "m", MARKER), ("relay", "z", SMALL), ("chain", "am", ("a", "m"))])
        self.assertIsNone(net.bad(CLOSER, ("spills",)))
        net.do(("relay", "b", relay_of(whole="close")))
        net.do(("chain", "bmz", ("b", "m", "z")))
        self.assertEqual(net.bad(CLOSER, ("spills",)), (("a", "m", "z"), BAD))
        net.do(("drop", "am"))
        self.assertEqual(net.bad(CLOSER, ("spills",)), (("b", "m", "z"), BAD))
        net.do(("chain", "bmz", ("b", "b", "z")))
        self.assertIsNone(net.bad(CLOSER, ("spills",)))

    def test_the_guard_itself_is_refused(self):
        net = simple()
        self.undoable(net, GUARD, Unsafe, ("a", "b"), BAD)
        self.assertIsNone(net.guard)
        net.do(("guard", (("close", "none"),), ("waits",)))
        self.undoable(net, GUARD, Unsafe, ("a", "b"), BAD)
        self.assertEqual(net.guard, ((("close", "none"),), ("waits",)))
        net.do(("drop", "ab"))
        net.do(GUARD)

    def test_no_words_and_no_senders_guard_nothing(self):
        net = simple()
        net.do(("guard", tuple(SENDERS), ()))
        net.do(("guard", (), tuple(WORDS)))
        net.do(("relay", "b", ENDER))
        net.do(("chain", "c", ("b", "a")))
        self.assertEqual(net.names(), ["a", "ab", "b", "c"])

    def test_no_relays(self):
        net = Net.of([("guard", tuple(SENDERS), tuple(WORDS)), ("chain", "no", ()), ("drop", "no"), ("chain", "no", ())])
        self.assertEqual(net.guard, (tuple(SENDERS), tuple(WORDS)))
        self.assertEqual(net.names(), ["no"])
        net.do(("relay", "a", ENDER))
        self.undoable(net, ("chain", "no", ("a",)), Unsafe, ("a",), (1, "length", 1, 0, "open"))
        net.do(("drop", "a"))

    def test_relays_without_chains_are_safe(self):
        net = Net.of([("relay", "a", ENDER), ("guard", tuple(SENDERS), tuple(WORDS)), ("relay", "b", SMALL), ("chain", "no", ())])
        self.assertEqual(net.names(), ["a", "b", "no"])

    def test_more_than_six_relays(self):
        net = Net.of(put(*"abcdef"))
        net.do(("guard", (), ()))
        self.undoable(net, ("relay", "g", PLAIN), Mismatch)
        self.undoable(net, ("relays", (("a", SMALL), ("g", PLAIN), ("h", PLAIN))), Mismatch)
        net.do(("relay", "a", SMALL))
        net.do(("chain", "g", ("a", "b")))
        net.do(("drop", "f"))
        net.do(("relay", "h", PLAIN))
        net = Net.of(put(*"abcdefg"))
        self.undoable(net, ("guard", (), ()), Mismatch)
        self.undoable(net, GUARD, Mismatch)
        self.undoable(net, ("guard", [], []), NoSender)
        self.undoable(net, ("guard", (), []), NoWord)
        self.undoable(net, ("guard", (), ("lost", "lost")), NoWord)
        net.do(("drop", "g"))
        net.do(GUARD)

    def test_undo_is_not_guarded(self):
        net = simple()
        net.all_done([("relay", "b", DRAIN), GUARD])
        net.undo()
        net.undo()
        self.assertEqual([net["b"], net.guard], [SMALL, None])
        net.redo()
        net.redo()
        self.assertEqual([net["b"], net.guard], [DRAIN, GUARD[1:]])

    def test_places_go_by_ascending_names(self):
        # The names come in another order than the relays, and chains stand among them.
        net = Net.of([("relay", "z", MARKER), ("relay", "b", SMALL), ("chain", "m", ("z", "b")), ("relay", "a", PLAIN)])
        self.assertEqual(net.bad(CLOSER, ("spills",)), (("z", "b"), BAD))
        self.undoable(net, GUARD, Unsafe, ("z", "b"), BAD)


class BadChains(NetCase):
    def test_with_links_of_all_chains(self):
        chance, bad = random.Random(281), 0
        for _ in range(200):
            names = sorted(chance.sample(["a", "b", "c9", "d", "x", "z"], chance.randrange(1, 5)))
            relays = {name: random_relay(chance, [None, 0, 2]) for name in names}
            chains = [tuple(chance.choices(names, k=chance.randrange(4))) for _ in range(chance.randrange(4))]
            operations = [("relay", name, relays[name]) for name in chance.sample(names, len(names))]
            operations += [("chain", f"y{number}", chain) for number, chain in enumerate(chains)]
            net = Net.of(operations)
            links = set()
            for chain in chains:
                places = [-1] + [names.index(name) for name in chain]
                links.update(zip(places, places[1:]))
            senders, unwanted = chance.sample(SENDERS, 2), tuple(chance.sample(WORDS, 2))
            expected = bad_chain(tuple(relays[name] for name in names), tuple(links), senders, unwanted)
            if expected is not None:
                bad += 1
                expected = (tuple(names[place] for place in expected[0]), expected[1])
            self.assertEqual(net.bad(senders, unwanted), expected)
            guard = ("guard", tuple(senders), unwanted)
            if expected is None:
                net.do(guard)
            else:
                self.undoable(net, guard, Unsafe, *expected)
        self.assertGreater(bad, 40)

    def test_errors(self):
        seven = Net.of(put(*"abcdefg"))
        for net in (Net(), Net.of([("chain", "no", ())]), simple(), seven):
            for senders in WRONG_SENDERS:
                for unwanted in (("spills",), []):
                    self.refused(Mismatch if net is seven else NoSender, lambda: net.bad(senders, unwanted), net=net)
            for unwanted in WRONG_WORDS:
                self.refused(Mismatch if net is seven else NoWord, lambda: net.bad([], unwanted), net=net)
        for net in (Net(), Net.of([("chain", "no", ())])):
            self.assertIsNone(net.bad(SENDERS, tuple(WORDS)))
            self.assertIsNone(net.bad([], ()))
        self.refused(Mismatch, lambda: seven.bad([], ()), net=seven)

    def test_six_relays(self):
        net = Net.of(put(*"abcdef") + [("chain", "g", tuple("abcdef"))])
        self.assertIsNone(net.bad(CLOSER, tuple(WORDS)))


class Partings(NetCase):
    def test_names_in_the_place_of_places(self):
        net = Net.of([("relay", "m", relay_of(whole="marks")), ("relay", "a", relay_of(hold=0)), ("relay", "s", SMALL)])
        self.assertEqual(net.parting("a", relay_of(hold=0, stream="close"), CLOSER), (("m",), BAD, ("s",)))
        self.assertIsNone(net.parting("a", relay_of(hold=0), CLOSER))
        self.assertIsNone(net.parting("a", ENDER, []))

    def test_links_do_not_count(self):
        operations = [("relay", "m", relay_of(whole="marks")), ("relay", "a", relay_of(hold=0)), ("relay", "s", SMALL)]
        for chains in ([], [("chain", "no", ())], [("chain", "asm", ("a", "s", "m"))]):
            net = Net.of(operations + chains)
            self.assertEqual(net.parting("a", relay_of(hold=0, stream="close"), CLOSER), (("m",), BAD, ("s",)))

    def test_by_chance(self):
        chance = random.Random(282)
        for _ in range(100):
            names = sorted(chance.sample(["a", "b", "c9", "d", "x", "z"], chance.randrange(1, 4)))
            relays = tuple(random_relay(chance, [None, 2]) for _ in names)
            net = Net.of([("relay", name, relay) for name, relay in zip(names, relays)][::-1])
            name, other = chance.choice(names), random_relay(chance, [None, 2])
            senders = chance.sample(SENDERS, 1)
            expected = parting(relays, senders, relays[names.index(name)], other)
            if expected is not None:
                ahead, sending, behind = expected
                expected = (tuple(names[one] for one in ahead), sending, tuple(names[one] for one in behind))
            self.assertEqual(net.parting(name, other, senders), expected)

    def test_errors(self):
        net, seven = simple(), Net.of(put(*"abcdefg"))
        for name in NO_NAMES + ["x", "ab"]:
            self.refused(NoName, lambda: net.parting(name, None, None), net=net)
            self.refused(NoName, lambda: seven.parting(name, None, None), net=seven)
        self.refused(Mismatch, lambda: seven.parting("a", None, None), net=seven)
        self.refused(Mismatch, lambda: seven.parting("a", PLAIN, []), net=seven)
        for senders in WRONG_SENDERS:
            self.refused(NoSender, lambda: net.parting("a", None, senders), net=net)
        for relay in NO_RELAYS:
            self.refused(NoRelay, lambda: net.parting("a", relay, []), 1, net=net)
        self.refused(NoName, lambda: Net().parting("a", PLAIN, []))


class Mends(NetCase):
    def test_one_change(self):
        net = simple()
        self.assertEqual(net.mend([("b", DRAIN, 4), ("b", PLAIN, 1), ("a", relay_of(whole="close"), 4)], CLOSER, ("spills",)),
                         (("b",), 1))
        self.assertEqual([net["b"], net.notes()[-1]], [PLAIN, ("relays", (("b", PLAIN),))])
        net.undo()
        self.assertEqual(net["b"], SMALL)

    def test_no_change_is_no_operation(self):
        net = simple()
        net.undo()
        before = walked(net)
        self.assertEqual(net.mend([("b", PLAIN, 0)], CLOSER, ("spills",)), ((), 0))
        self.assertEqual(net.mend([], CLOSER, ("spills",)), ((), 0))
        self.assertEqual(walked(net), before)
        net.redo()
        self.assertIn("ab", net)

    def test_several_changes_in_their_order(self):
        net = Net.of([("relay", "z", ENDER), ("relay", "a", ENDER), ("chain", "c", ("z", "a")), ("chain", "d", ("a",))])
        changes = [("z", REFUSER, 3), ("a", ENDER, 0), ("a", PLAIN, 2)]
        self.assertEqual(net.mend(changes, [("marks", "shut")], ("fooled",)), (("z", "a"), 5))
        self.assertEqual(net.notes()[-1], ("relays", (("z", REFUSER), ("a", PLAIN))))
        self.assertEqual([net["z"], net["a"]], [REFUSER, PLAIN])

    def test_by_chance(self):
        chance, mended = random.Random(283), 0
        for _ in range(150):
            names = sorted(chance.sample(["a", "b", "c9", "d", "x", "z"], chance.randrange(1, 4)))
            relays = tuple(random_relay(chance, [None, 2]) for _ in names)
            chain = tuple(chance.choices(names, k=chance.randrange(1, 4)))
            net = Net.of([("relay", name, relay) for name, relay in zip(names, relays)] + [("chain", "y", chain)])
            changes = [(chance.choice(names), random_relay(chance, [None, 2]), chance.randrange(3)) for _ in range(3)]
            senders, unwanted = chance.sample(SENDERS, 1), tuple(chance.sample(WORDS, 2))
            places = [-1] + [names.index(name) for name in chain]
            told = [(names.index(name), relay, price) for name, relay, price in changes]
            choice, price, _, _ = cheapest(relays, tuple(set(zip(places, places[1:]))), senders, unwanted, told)
            if choice is None:
                self.refused(NoMend, lambda: net.mend(changes, senders, unwanted), net=net)
            else:
                mended += bool(choice)
                before = len(net.notes())
                self.assertEqual(net.mend(changes, senders, unwanted), (tuple(changes[at][0] for at in choice), price))
                self.assertEqual(len(net.notes()) - before, 1 if choice else 0)
                self.assertIsNone(net.bad(senders, unwanted))
                for at in choice:
                    self.assertEqual(net[changes[at][0]], changes[at][1])
        self.assertGreater(mended, 5)

    def test_no_safe_choice(self):
        net = simple()
        for changes in ([], [("a", MARKER, 1)], [("a", MARKER, 0), ("b", SMALL, 0)]):
            self.refused(NoMend, lambda: net.mend(changes, CLOSER, ("spills",)), net=net)

    def test_a_mend_that_the_guard_refuses(self):
        net = Net.of([("relay", "a", PLAIN), ("relay", "b", relay_of(limit=5)), ("chain", "ab", ("a", "b")), GUARD])
        # What loses a body is mended by a relay that spills it, which the guard does not take.
        wrong = relay_of(hold=0, limit=5, rest="leave", over="trim", stream="marks")
        net.all_done([("chain", "ab", ("a",)), ("relay", "a", MARKER)])
        net.do(("chain", "ab", ("a", "b")))
        before = walked(net)
        self.assertEqual(net.bad(CLOSER, ("lost",)), (("a", "b"), BAD))
        with self.assertRaises(Unsafe) as caught:
            net.mend([("b", wrong, 1)], CLOSER, ("lost",))
        self.assertEqual([caught.exception.chain, caught.exception.sending], [("a", "b"), BAD])
        self.assertEqual(walked(net), before)
        self.assertEqual(net.mend([("b", wrong, 1), ("b", PLAIN, 2)], CLOSER, ("lost", "spills")), (("b",), 2))

    def test_changes_of_another_form(self):
        net = simple()
        net.undo()
        wrong = [thing for thing in NOTHINGS if thing != []] + [
            None, (), (("a", PLAIN, 1),), [["a", PLAIN, 1]], [("a", PLAIN)], [("a", PLAIN, 1, 0)], [("ab", PLAIN, 1)],
            [("d", PLAIN, 1)], [("A", PLAIN, 1)], [(0, PLAIN, 1)], [(["a"], PLAIN, 1)], [("a", None, 1)], [("a", list(PLAIN), 1)],
            [("a", PLAIN, -1)], [("a", PLAIN, True)], [("a", PLAIN, None)], [("a", PLAIN, "1")], [None], {"a": PLAIN}, [[]],
            [("a", PLAIN, 1), None], [("a", PLAIN, 1)] * 7 + [("d", PLAIN, 1)],
        ]
        for changes in wrong:
            for senders, unwanted in ((CLOSER, ("spills",)), (None, None)):
                self.refused(NoChange, lambda: net.mend(changes, senders, unwanted), net=net)
        net.redo()
        self.refused(NoChange, lambda: net.mend([("ab", PLAIN, 1)], CLOSER, ("spills",)), net=net)

    def test_what_cheapest_raises(self):
        net, seven = simple(), Net.of(put(*"abcdefg"))
        one = [("a", PLAIN, 1)]
        self.refused(Mismatch, lambda: Net().mend([], [], ()))
        self.refused(Mismatch, lambda: Net().mend([], None, None))
        self.refused(Mismatch, lambda: seven.mend(one * 7, None, None), net=seven)
        for senders in WRONG_SENDERS:
            self.refused(NoSender, lambda: net.mend(one * 7, senders, None), net=net)
        for unwanted in WRONG_WORDS:
            self.refused(NoWord, lambda: net.mend(one * 7, CLOSER, unwanted), net=net)
        self.refused(TooMany, lambda: net.mend(one * 7, CLOSER, ("spills",)), 6, net=net)

    def test_what_is_passed_stays(self):
        net, changes, senders = simple(), [("b", PLAIN, 1)], list(CLOSER)
        before = copy.deepcopy((changes, senders))
        net.mend(changes, senders, ("spills",))
        net.bad(senders, ("spills",))
        net.parting("a", PLAIN, senders)
        self.assertEqual((changes, senders), before)
        changes.clear()
        self.assertEqual(net.notes()[-1], ("relays", (("b", PLAIN),)))


class LiveChains(NetCase):
    def test_of_a_chain_and_of_a_relay(self):
        net = simple()
        self.assertEqual([type(net.live("ab")), net.live("ab").chain, net.live("a").chain], [LiveChain, (MARKER, SMALL), (MARKER,)])
        net.do(("chain", "no", ()))
        self.assertEqual(len(net.live("no")), 0)

    def test_later_operations_do_not_change_it(self):
        net = simple()
        line, other = net.live("ab"), net.live("ab")
        line(("head", "close", None))
        net.all_done([("relay", "b", PLAIN), ("chain", "ab", ()), ("relay", "a", REFUSER)])
        third = net.live("ab")
        line(("units", 5))
        self.assertEqual(line(("shut",)), [("head", "length", 5), ("units", 5)])
        self.assertEqual([line.chain, other.chain, third.chain], [(MARKER, SMALL), (MARKER, SMALL), ()])
        self.assertEqual([other.got, third.got], [None, None])
        for _ in range(6):
            net.undo()
        self.assertEqual(line.got, ("close", None, 5, "shut"))
        self.assertEqual(other(("head", "marks", None)), [])

    def test_lines_are_apart(self):
        net = Net.of([("relay", "a", relay_of(hold=0))])
        one, other = net.live("a"), net.live("a")
        one(("head", "marks", None))
        self.assertEqual(one(("units", 3)), [("head", "marks", None), ("units", 3)])
        self.assertIsNone(other.sent)


class ModelNet:
    """A net by the words of point 17 and of the interface; each operation is told as an error's class or as None."""

    def __init__(self, most):
        self.most, self.things, self.guard, self.past, self.future = most, {}, None, [], []

    def relays(self):
        return {name: thing[1] for name, thing in self.things.items() if thing[0] == "relay"}

    def error(self, things, operation):
        """Return the class of the error of a right form of operation, having done it in a dict of things, or None."""
        word, name = operation[0], operation[1]
        if word == "relays":
            for name, relay in operation[1]:
                if error := self.error(things, ("relay", name, relay)):
                    return error
        elif word == "relay":
            if things.get(name, ("relay",))[0] == "chain":
                return Mismatch
            if name not in things and len(things) >= self.most:
                return TooMany
            things[name] = ("relay", operation[2])
        elif word == "chain":
            if any(things.get(one, ("chain",))[0] == "chain" for one in operation[2]):
                return NoName
            if len(operation[2]) > 12:
                return TooMany
            if things.get(name, ("chain",))[0] == "relay":
                return Mismatch
            if name not in things and len(things) >= self.most:
                return TooMany
            things[name] = ("chain", operation[2])
        elif word == "drop":
            if name not in things:
                return NoName
            if any(thing[0] == "chain" and name in thing[1] for thing in things.values()):
                return Mismatch
            del things[name]
        return None

    def do(self, operation):
        things = dict(self.things)
        if error := self.error(things, operation):
            return error
        guard = operation[1:] if operation[0] == "guard" else self.guard
        relays = {name: thing[1] for name, thing in things.items() if thing[0] == "relay"}
        names = sorted(relays)
        if guard is not None and names:
            if len(names) > 6:
                return Mismatch
            rows = [[-1] + [names.index(name) for name in thing[1]] for thing in things.values() if thing[0] == "chain"]
            links = tuple({link for row in rows for link in zip(row, row[1:])})
            if bad_chain(tuple(relays[name] for name in names), links, list(guard[0]), guard[1]):
                return Unsafe
        self.past.append((operation, self.things, self.guard))
        self.things, self.guard, self.future = things, guard, []
        return None

    def undo(self):
        if not self.past:
            return NoMark
        operation, things, guard = self.past.pop()
        self.future.append((operation, self.things, self.guard))
        self.things, self.guard = things, guard
        return None

    def redo(self):
        if not self.future:
            return NoMark
        operation, things, guard = self.future.pop()
        self.past.append((operation, self.things, self.guard))
        self.things, self.guard = things, guard
        return None


class ByChance(NetCase):
    def operation(self, chance, names):
        relay = lambda: random_relay(chance, [None, 2])
        name = chance.choice(names)
        return chance.choice([
            ("relay", name, relay()), ("relay", name, relay()), ("drop", name),
            ("relays", tuple((chance.choice(names), relay()) for _ in range(chance.randrange(4)))),
            ("chain", name, tuple(chance.choices(names[:5], k=chance.choice([0, 1, 2, 3, 12, 13])))),
            ("chain", name, tuple(chance.choices(names[:5], k=chance.choice([1, 2, 3])))),
            ("guard", tuple(chance.sample(SENDERS, chance.randrange(3))), tuple(chance.sample(WORDS, chance.randrange(3)))),
        ])

    def outcome(self, call):
        try:
            return call()
        except RelayError as error:
            return type(error)

    def test_histories(self):
        chance, outcomes = random.Random(284), {}
        names = ["a", "b", "c", "d", "e", "k1", "k2", "k3", "z"]
        for _ in range(120):
            most = chance.choice([3, 7, 12])
            net, model = Net(most=most), ModelNet(most)
            for _ in range(40):
                step = chance.randrange(6)
                if step < 4:
                    operation = self.operation(chance, names)
                    expected, found = model.do(operation), self.outcome(lambda: net.do(operation))
                elif step == 4:
                    expected, found = model.undo(), self.outcome(net.undo)
                else:
                    expected, found = model.redo(), self.outcome(net.redo)
                self.assertIs(found, expected)
                outcomes[expected] = outcomes.get(expected, 0) + 1
                self.assertEqual({name: net[name] for name in net.names()}, {name: thing[1] for name, thing in model.things.items()})
                self.assertEqual(net.relay_names(), sorted(model.relays()))
                self.assertEqual([net.guard, net.notes()], [model.guard, [operation for operation, _, _ in model.past]])
                if net.guard is not None and model.relays():
                    # As long as there is a guard, no chain of the net has one of its troubles.
                    self.assertIsNone(net.bad(list(net.guard[0]), net.guard[1]))
        for error in (None, NoName, Mismatch, TooMany, Unsafe, NoMark):
            self.assertGreater(outcomes[error], 10, outcomes)

    def test_lists_are_done_whole_or_not_at_all(self):
        chance, told = random.Random(285), {True: 0, False: 0}
        names = ["a", "b", "c", "d", "e", "k1"]
        for _ in range(150):
            net, model = Net(most=5), ModelNet(5)
            for _ in range(6):
                operation = self.operation(chance, names)
                if self.outcome(lambda: net.do(operation)) is None:
                    model.do(operation)
            for _ in range(chance.randrange(3)):
                if self.outcome(net.undo) is None:
                    model.undo()
            operations = [self.operation(chance, names) for _ in range(chance.randrange(4))]
            before, other = walked(net), copy.deepcopy(model)
            errors = list(itertools.takewhile(lambda error: error is None, map(other.do, operations)))
            whole = len(errors) == len(operations)
            found = self.outcome(lambda: net.all_done(operations))
            self.assertIs(found is None, whole)
            told[whole] += 1
            if not whole:
                self.assertEqual(walked(net), before)
            else:
                self.assertEqual({name: net[name] for name in net.names()}, {name: one[1] for name, one in other.things.items()})
        self.assertGreater(min(told.values()), 30)


if __name__ == "__main__":
    unittest.main()
