"""Point 12: senders, what they send, and its standings."""

import copy
import itertools
import unittest

from cutrelays.errors import Mismatch, NoBounds, NoSender
from cutrelays.senders import is_sender, sent, starts
from cutrelays.sendings import is_sending
from tools import NOTHINGS, WAYS, model_sent, model_standing, order

BREAKS = ["none", "shut", "open"]
SENDERS = list(itertools.product(WAYS, BREAKS))
NO_SENDERS = NOTHINGS + [
    None, (), ("length",), ("length", "none", "none"), ["length", "none"], {"length": "none"}, "length none", ("none", "length"),
    ("length", "mark"), ("marks", "mark"), ("mark", "none"), ("same", "open"), ("length", None), (None, "none"), ("length", 0),
    (["length"], "none"), ("length", ["none"]), ("Length", "none"), ("length", "none "), ("length", ""), (("length", "none"),),
    ("length", "close"), ("length", "length"), ("shut", "shut"), ("length", True),
]
LARGE = 10 ** 12


class IsSender(unittest.TestCase):
    def test_each_way_with_each_break(self):
        self.assertEqual(len(SENDERS), 9)
        for sender in SENDERS:
            with self.subTest(sender=sender):
                self.assertIs(is_sender(sender), True)

    def test_other_objects(self):
        for thing in NO_SENDERS + [SENDERS, tuple(SENDERS)]:
            with self.subTest(thing=thing):
                self.assertIs(is_sender(thing), False)


class Sent(unittest.TestCase):
    def test_without_a_break(self):
        for units in (0, 1, 5, LARGE):
            self.assertEqual(sent(("length", "none"), units, units), (units, "length", units, units, "open"))
            self.assertEqual(sent(("marks", "none"), units, units), (units, "marks", None, units, "mark"))
            self.assertEqual(sent(("close", "none"), units, units), (units, "close", None, units, "shut"))

    def test_with_a_break(self):
        for meant, units in [(1, 0), (5, 0), (5, 3), (5, 4), (LARGE, LARGE - 1), (LARGE, 0)]:
            for stop in ("shut", "open"):
                self.assertEqual(sent(("length", stop), meant, units), (meant, "length", meant, units, stop))
                self.assertEqual(sent(("marks", stop), meant, units), (meant, "marks", None, units, stop))
                self.assertEqual(sent(("close", stop), meant, units), (meant, "close", None, units, stop))

    def test_each_is_a_sending(self):
        for sender in SENDERS:
            self.assertTrue(is_sending(sent(sender, 4, 4 if sender[1] == "none" else 2)))

    def test_units_that_do_not_fit(self):
        for way in WAYS:
            for meant, units in [(5, 4), (5, 6), (5, 0), (0, 1), (LARGE, LARGE - 1)]:
                with self.subTest(way=way, units=units), self.assertRaises(Mismatch):
                    sent((way, "none"), meant, units)
            for stop in ("shut", "open"):
                for meant, units in [(0, 0), (5, 5), (5, 6), (0, 1), (LARGE, LARGE)]:
                    with self.subTest(way=way, stop=stop, units=units), self.assertRaises(Mismatch):
                        sent((way, stop), meant, units)

    def test_no_sender(self):
        for thing in NO_SENDERS:
            for meant, units in [(5, 5), (5, 3), (3, 5), (0, 0)]:
                with self.subTest(thing=thing, units=units), self.assertRaises(NoSender):
                    sent(thing, meant, units)


class Starts(unittest.TestCase):
    BOUNDS = [[0], [0, 1], [0, 2], [0, 4], [0, 4, 9], [0, 1, 2, 3], [0, 2, 3, 5]]

    def check(self, senders, bounds):
        standings = {model_standing(sending, bounds) for sending in model_sent(senders, bounds[-1] + 4)}
        with self.subTest(senders=senders, bounds=bounds):
            for some in (bounds, tuple(bounds)):
                self.assertEqual(starts(senders, some), sorted(standings, key=order))

    def test_no_senders(self):
        for bounds in self.BOUNDS:
            self.check([], bounds)
        self.assertEqual(starts([], [0]), [])

    def test_one_sender(self):
        for bounds in self.BOUNDS:
            for sender in SENDERS:
                self.check([sender], bounds)
        self.assertEqual(starts([("length", "none")], [0]), [(0, "length", 0, 0, "open"), (1, "length", 1, 1, "open")])
        self.assertEqual(starts([("marks", "shut")], [0]), [(1, "marks", None, 0, "shut"), (2, "marks", None, 1, "shut")])
        self.assertEqual(starts([("close", "open")], [0, 1]),
                         [(1, "close", None, 0, "open"), (2, "close", None, 0, "open"), (2, "close", None, 1, "open"),
                          (3, "close", None, 2, "open")])

    def test_two_senders_in_any_order(self):
        for one, other in itertools.permutations(SENDERS, 2):
            self.check([one, other], [0, 3])

    def test_all_senders(self):
        for bounds in self.BOUNDS:
            self.check(SENDERS, bounds)
            self.check(SENDERS[::-1], bounds)

    def test_one_twice(self):
        for sender in SENDERS:
            self.check([sender, sender], [0, 4])
            self.check([sender] + SENDERS + [sender], [0])

    def test_no_list_of_senders(self):
        for thing in NO_SENDERS + [(), tuple(SENDERS), {}, {("length", "none"): 1}, ("length", "none"), "", None]:
            for bounds in ([0], [1], None):
                if not isinstance(thing, list):
                    with self.subTest(thing=thing), self.assertRaises(NoSender):
                        starts(thing, bounds)
        for thing in NO_SENDERS:
            for senders in ([thing], [("length", "none"), thing], [thing, ("length", "none")]):
                with self.subTest(senders=senders), self.assertRaises(NoSender):
                    starts(senders, [0])

    def test_no_bounds(self):
        for bounds in ([], (), [1], [0, 0], [0, 3, 2], [False], [0, True], [-1], ["0"], {0: 0}, "0", None, 0):
            for senders in ([], [("length", "none")]):
                with self.subTest(bounds=bounds), self.assertRaises(NoBounds):
                    starts(senders, bounds)

    def test_wrong_senders_ahead_of_wrong_bounds(self):
        with self.assertRaises(NoSender):
            starts([("length",)], [1])
        with self.assertRaises(NoSender):
            starts((), [])

    def test_new_lists_and_what_is_passed_stays(self):
        senders, bounds, wrong = [("length", "none")], [0, 4], [[["length"], "none"]]
        before = copy.deepcopy((senders, bounds, wrong))
        first = starts(senders, bounds)
        self.assertIs(type(first), list)
        first.clear()
        self.assertEqual(len(starts(senders, bounds)), 4)
        with self.assertRaises(NoSender):
            starts(wrong, bounds)
        self.assertEqual((senders, bounds, wrong), before)


if __name__ == "__main__":
    unittest.main()
