"""Point 14: relays that are alike in every chain of some kinds, partings and likenesses."""

import copy
import itertools
import random
import time
import unittest

from cases import CLOSER, ENDER, MARKER, NO_KINDS, REFUSER, SENDERS, SMALL, WRONG_SENDERS
from cutrelays.contexts import are_alike_everywhere, likeness, parting, pushed_pair, shows_likeness, shows_parting
from cutrelays.errors import Mismatch, NoBounds, NoRelay, NoSender, NoSending
from cutrelays.standings import bounds_of, is_standing, standing, standings
from tools import (
    NOTHINGS, PLAIN, deep, model_reading, model_relayed, model_sent, model_standing, order, random_relay, relay_of,
    right_sendings,
)

LARGE = 10 ** 12
TELLER = [("length", "none")]


def model_pair(one, other, bounds):
    """Return what pushed_pair tells, by counting the values below each value and above its bound."""
    values = {value for some in (one, other) if some is not None for value in (some[0], some[2], some[3]) if value is not None}

    def pushed(value):
        if value is None or value in bounds:
            return value
        lower = max(bound for bound in bounds if bound < value)
        return lower + len({third for third in values if lower < third <= value})

    def down(some):
        return None if some is None else (pushed(some[0]), some[1], pushed(some[2]), pushed(some[3]), some[4])

    return (down(one), down(other))


def readings_and_words(kinds, relay, ahead, sending, behind):
    """Return the reading of the last reader (or None) and the words at each relay of a run."""
    come, told = sending, []
    for one in [kinds[place] for place in ahead] + [relay] + [kinds[place] for place in behind]:
        come, words = (None, ()) if come is None else model_relayed(one, come)
        told.append(words)
    return (None if come is None else model_reading(come), told)


def tells_apart(kinds, one, other, ahead, sending, behind):
    return (readings_and_words(kinds, one, ahead, sending, behind)
            != readings_and_words(kinds, other, ahead, sending, behind))


def slow_parting(kinds, senders, one, other, longest):
    """Return the least parting with up to so many relays ahead and behind together, or None, by trying them all."""
    sendings = model_sent(senders, bounds_of(kinds + (one, other))[-1] + 4)
    rows = [row for many in range(longest + 1) for row in itertools.product(range(len(kinds)), repeat=many)]
    pairs = [(ahead, behind) for ahead in rows for behind in rows if len(ahead) + len(behind) <= longest]
    for ahead, behind in sorted(pairs, key=lambda pair: (len(pair[0]) + len(pair[1]), pair[0], pair[1])):
        for sending in sendings:
            if tells_apart(kinds, one, other, ahead, sending, behind):
                return (ahead, sending, behind)
    return None


def slow_likeness(kinds, senders, one, other):
    """Return the least likeness, or None, by following sendings themselves, not their standings."""
    bounds = bounds_of(kinds + (one, other))
    ahead = set(model_sent(senders, bounds[-1] + 4))
    layer = ahead
    while layer:
        outs = {model_relayed(kind, sending)[0] for kind in kinds for sending in layer}
        layer = outs - ahead - {None}
        ahead = ahead | layer
    pairs, layer = set(), set()
    for sending in ahead:
        (out, words), (second, told) = model_relayed(one, sending), model_relayed(other, sending)
        if words != told:
            return None
        layer.add((out, second))
    while layer:
        if any((out is None) != (second is None) for out, second in layer):
            return None
        layer = {pair for pair in layer if pair != (None, None)} - pairs
        if any(model_reading(out) != model_reading(second) for out, second in layer):
            return None
        pairs |= layer
        reached = set()
        for (first, second), kind in itertools.product(layer, kinds):
            (out, words), (come, told) = model_relayed(kind, first), model_relayed(kind, second)
            if words != told:
                return None
            reached.add((out, come))
        layer = reached
    return (sorted({model_standing(sending, bounds) for sending in ahead}, key=order),
            sorted({model_pair(*pair, bounds) for pair in pairs}, key=lambda pair: (order(pair[0]), order(pair[1]))))


def is_likeness(kinds, senders, one, other, thing):
    """Return whether a tuple of two lists of sendings and of pairs is a likeness, by the interface's sentences."""
    bounds = bounds_of(kinds + (one, other))
    some, pairs = thing
    if len(set(some)) != len(some) or len(set(pairs)) != len(pairs):
        return False
    needed = model_sent(senders, bounds[-1] + 4) + [model_relayed(kind, sending)[0] for kind in kinds for sending in some]
    if not all(sending is None or model_standing(sending, bounds) in some for sending in needed):
        return False
    if not all(model_standing(sending, bounds) == sending for sending in some):
        return False
    if not all(model_reading(first) == model_reading(second) for first, second in pairs):
        return False
    if not all(model_pair(*pair, bounds) == pair for pair in pairs):
        return False
    steps = [(model_relayed(one, sending), model_relayed(other, sending)) for sending in some]
    steps += [(model_relayed(kind, first), model_relayed(kind, second)) for kind in kinds for first, second in pairs]
    for (out, words), (come, told) in steps:
        if words != told or ((out, come) != (None, None) and model_pair(out, come, bounds) not in pairs):
            return False
    return True


def near_relay(chance, relay, sizes):
    """Return a relay with one or two settings of another one changed."""
    other = list(relay)
    for place in chance.sample(range(8), chance.choice([1, 1, 2])):
        other[place] = random_relay(chance, sizes)[place]
    return tuple(other)


def draws(seed, many, most=3, sizes=(None, None, 0, 2)):
    """Return (kinds, senders, one, other) of some draws, one and other often nearly the same."""
    chance, found = random.Random(seed), []
    for _ in range(many):
        kinds = tuple(random_relay(chance, sizes) for _ in range(chance.randrange(1, most + 1)))
        one = random_relay(chance, sizes)
        other = near_relay(chance, one, sizes) if chance.randrange(4) else random_relay(chance, sizes)
        found.append((kinds, chance.sample(SENDERS, chance.choice([0, 1, 1, 1, 2, 9])), one, other))
    return found


class PushedPairs(unittest.TestCase):
    def test_with_none(self):
        one = (7, "length", 9, 4, "shut")
        self.assertEqual(pushed_pair(None, None, [0]), (None, None))
        for bounds in ([0], [0, 3], (0, 3, 8), [0, 4, 7, 9]):
            down = standing(one, bounds)
            self.assertEqual(pushed_pair(one, None, bounds), (down, None))
            self.assertEqual(pushed_pair(None, one, bounds), (None, down))
            self.assertEqual(pushed_pair(one, one, bounds), (down, down))

    def test_six_values_between_two_bounds(self):
        one, other = (90, "length", 40, 30, "shut"), (80, "length", 60, 20, "open")
        self.assertEqual(pushed_pair(one, other, [0]), ((6, "length", 3, 2, "shut"), (5, "length", 4, 1, "open")))
        self.assertEqual(pushed_pair(one, other, [0, 7]), ((13, "length", 10, 9, "shut"), (12, "length", 11, 8, "open")))
        self.assertEqual(pushed_pair(one, other, [0, 100]), ((6, "length", 3, 2, "shut"), (5, "length", 4, 1, "open")))
        self.assertEqual(pushed_pair(one, other, [0, 40, 70]), ((72, "length", 40, 2, "shut"), (71, "length", 41, 1, "open")))

    def test_five_and_four_values(self):
        one, other = (9, "length", 7, 5, "shut"), (8, "marks", None, 3, "mark")
        self.assertEqual(pushed_pair(one, other, [0]), ((5, "length", 3, 2, "shut"), (4, "marks", None, 1, "mark")))
        self.assertEqual(pushed_pair(other, one, [0]), ((4, "marks", None, 1, "mark"), (5, "length", 3, 2, "shut")))
        other = (7, "close", None, 3, "open")
        self.assertEqual(pushed_pair(one, other, [0]), ((4, "length", 3, 2, "shut"), (3, "close", None, 1, "open")))

    def test_values_that_are_bounds(self):
        one, other = (9, "length", 7, 5, "shut"), (8, "marks", None, 3, "mark")
        self.assertEqual(pushed_pair(one, other, [0, 3, 5, 7, 8, 9]), (one, other))
        self.assertEqual(pushed_pair(one, other, [0, 5, 8]), ((9, "length", 6, 5, "shut"), (8, "marks", None, 1, "mark")))
        self.assertEqual(pushed_pair(one, other, [0, 6]), ((9, "length", 7, 2, "shut"), (8, "marks", None, 1, "mark")))

    def test_values_of_both(self):
        one, other = (5, "marks", None, 5, "mark"), (5, "close", None, 3, "shut")
        self.assertEqual(pushed_pair(one, other, [0]), ((2, "marks", None, 2, "mark"), (2, "close", None, 1, "shut")))
        self.assertEqual(pushed_pair(one, one, [0]), ((1, "marks", None, 1, "mark"),) * 2)

    def test_all_small_ones(self):
        chance, some = random.Random(241), right_sendings(5)
        for bounds in ([0], [0, 1], [0, 3], [0, 2, 4], (0, 1, 2, 3, 4, 5), [0, 9]):
            for one, other in [chance.choices(some, k=2) for _ in range(400)]:
                down = pushed_pair(one, other, bounds)
                self.assertEqual(down, model_pair(one, other, bounds))
                self.assertEqual(pushed_pair(*down, bounds), down)
                self.assertIs(type(down), tuple)

    def test_large_numbers(self):
        one, other = (LARGE, "length", LARGE, LARGE - 1, "shut"), (LARGE - 2, "length", LARGE, LARGE - 3, "open")
        expected = ((4, "length", 4, 3, "shut"), (2, "length", 4, 1, "open"))
        self.assertEqual(pushed_pair(one, other, [0]), expected)
        self.assertEqual(pushed_pair(one, other, [0, LARGE]),
                         ((LARGE, "length", LARGE, 3, "shut"), (2, "length", LARGE, 1, "open")))

    def test_errors(self):
        right = (1, "length", 1, 1, "open")
        for thing in NOTHINGS + [(), right[:4], list(right), (right, right), (1, "length", 1, 2, "open"), (True,) + right[1:]]:
            for one, other in ((thing, right), (right, thing), (None, thing), (thing, None), (thing, thing)):
                for bounds in ([0], [1], None):
                    with self.subTest(one=one, other=other), self.assertRaises(NoSending):
                        pushed_pair(one, other, bounds)
        for bounds in ([], (), [1], [0, 0], [0, 3, 2], [False], [0, True], [-1], ["0"], {0: 0}, "0", None, 0, deep(20)):
            for one, other in ((None, None), (right, None), (None, right), (right, right)):
                with self.subTest(bounds=bounds), self.assertRaises(NoBounds):
                    pushed_pair(one, other, bounds)


class Partings(unittest.TestCase):
    def parting(self, expected, kinds, senders, one, other):
        with self.subTest(kinds=kinds, senders=senders, one=one, other=other):
            self.assertEqual(parting(kinds, senders, one, other), expected)
            self.assertEqual(parting(kinds, senders, other, one), expected)
            for first, second in ((one, other), (other, one)):
                self.assertIs(are_alike_everywhere(kinds, senders, first, second), expected is None)
                self.assertIs(likeness(kinds, senders, first, second) is None, expected is not None)
                if expected is not None:
                    self.assertIs(shows_parting(kinds, senders, first, second, expected), True)

    def test_equal_relays(self):
        for relay in (PLAIN, MARKER, ENDER, SMALL, REFUSER):
            self.parting(None, (SMALL, MARKER), SENDERS, relay, relay)

    def test_alike_though_different(self):
        self.parting(None, (relay_of(limit=5),), TELLER, PLAIN, MARKER)
        self.parting(None, (PLAIN,), [("length", "none"), ("marks", "none")], PLAIN, ENDER)
        self.parting(None, (PLAIN,), SENDERS, PLAIN, relay_of(rest="leave"))
        self.parting(None, (PLAIN,), SENDERS, relay_of(over="trim"), relay_of(rest="drain"))
        self.parting(None, (MARKER,), [("length", "shut")], PLAIN, MARKER)

    def test_told_apart_at_once(self):
        self.parting(((), (1, "length", 1, 0, "shut"), ()), (PLAIN,), [("length", "shut")], PLAIN, ENDER)
        self.parting(((), (6, "close", None, 6, "shut"), ()), (PLAIN,), CLOSER, PLAIN, relay_of(limit=5))
        self.parting(((), (1, "length", 1, 0, "open"), ()), (PLAIN,), [("length", "open")], PLAIN, relay_of(wait="cut"))

    def test_told_apart_by_troubles_alone(self):
        one, other = relay_of(limit=5, rest="leave"), relay_of(limit=5, rest="shut")
        self.parting(((), (6, "marks", None, 6, "mark"), ()), (PLAIN,), [("marks", "none")], one, other)
        self.parting(None, (relay_of(whole="close"),), CLOSER, one, other)
        # Both get nothing at the reader; a relay behind it is told apart by what it says of it.
        self.parting(((), (6, "length", 6, 6, "open"), (0,)), (relay_of(limit=5, rest="leave"),),
                     TELLER, PLAIN, relay_of(whole="close"))

    def test_told_apart_by_a_kind_ahead_alone(self):
        kinds = (relay_of(whole="marks"),)
        one, other = relay_of(limit=5, rest="leave"), relay_of(limit=5, rest="shut")
        self.parting(((0,), (6, "close", None, 6, "shut"), ()), kinds, CLOSER, one, other)
        self.parting(None, (relay_of(whole="close"),), CLOSER, one, other)

    def test_told_apart_by_a_kind_behind_alone(self):
        kinds = (relay_of(hold=2, limit=5, over="trim"),)
        self.parting(((), (6, "length", 6, 6, "open"), (0,)), kinds, TELLER, PLAIN, MARKER)
        self.parting(None, (relay_of(limit=5),), TELLER, PLAIN, MARKER)

    def test_told_apart_by_both_alone(self):
        # The first kind turns the body into one whose way the two relays send on or not, the second one tells the ways apart.
        kinds, senders = (relay_of(whole="marks"), relay_of(limit=5, rest="leave")), CLOSER
        one, other = relay_of(hold=0, stream="same"), relay_of(hold=0, stream="close")
        expected = ((0,), (6, "close", None, 6, "shut"), (1,))
        self.assertEqual(slow_parting(kinds, senders, one, other, 2), expected)
        self.parting(expected, kinds, senders, one, other)
        self.parting(None, kinds[:1], senders, one, other)
        self.parting(None, kinds[1:], senders, one, other)

    def test_fewest_relays_ahead_of_a_lesser_row(self):
        one, other = relay_of(hold=0, stream="same"), relay_of(hold=0, stream="close")
        turner, small = relay_of(whole="marks"), relay_of(limit=5, rest="leave")
        self.parting(((1,), (6, "close", None, 6, "shut"), (0,)), (small, turner), CLOSER, one, other)
        self.parting(((), (6, "marks", None, 6, "mark"), (0,)), (small, turner), CLOSER + [("marks", "none")], one, other)

    def test_the_empty_row_ahead_is_the_least(self):
        # One relay, ahead or behind: behind it is.
        kinds = (relay_of(whole="marks", limit=5, rest="leave"),)
        one, other = relay_of(limit=7, rest="leave", whole="marks"), relay_of(limit=7, rest="shut", whole="close")
        found = parting(kinds, CLOSER, one, other)
        self.assertEqual(found, ((), (6, "close", None, 6, "shut"), (0,)))
        self.assertEqual(found, slow_parting(kinds, CLOSER, one, other, 2))

    def test_the_least_of_two_rows_ahead_of_the_same_standing(self):
        # The second kind makes what comes of a lesser sending, the first one of a greater one.
        kinds = (relay_of(hold=1, over="trim", whole="marks", cut="refuse"), relay_of(whole="marks", cut="whole"))
        one, other = relay_of(limit=0, rest="leave"), relay_of(limit=0)
        self.parting(((0,), (3, "length", 3, 2, "shut"), ()), kinds, [("length", "shut")], one, other)
        self.parting(((0,), (2, "length", 2, 1, "shut"), ()), kinds[::-1], [("length", "shut")], one, other)

    def test_two_relays_behind(self):
        # The first kind cuts what waits, and only of what is cut does the second one tell the two ways apart.
        cutter, picker = relay_of(wait="cut"), relay_of(limit=2, rest="drain", cut="whole")
        one, other, senders = relay_of(hold=0), relay_of(hold=0, stream="marks"), [("length", "open")]
        found = ((), (3, "length", 3, 1, "open"), (0, 1))
        self.assertEqual(slow_parting((cutter, picker), senders, one, other, 2), found)
        self.parting(found, (cutter, picker), senders, one, other)
        self.parting(found[:2] + ((1, 0),), (picker, cutter), senders, one, other)
        self.parting(found[:2] + ((1, 0),), (picker, cutter, cutter), senders, one, other)
        self.parting(None, (picker,), senders, one, other)
        self.parting(None, (cutter,), senders, one, other)

    def test_four_relays(self):
        kinds = (
            (1, "trim", "length", "marks", "whole", "cut", 1, "leave"),
            (4, "trim", "close", "close", "pass", "wait", None, "shut"),
            (1, "stream", "marks", "marks", "refuse", "wait", 2, "shut"),
        )
        one, other = [(None, "stream", whole, "marks", "refuse", "cut", 2, "shut") for whole in ("close", "marks")]
        found = ((1, 2, 1), (6, "length", 6, 5, "open"), (0,))
        self.assertEqual(slow_parting(kinds, [("length", "open")], one, other, 4), found)
        self.parting(found, kinds, [("length", "open")], one, other)

    def test_three_relays(self):
        kinds = ((2, "stream", "length", "same", "refuse", "cut", None, "drain"),
                 (None, "trim", "marks", "close", "pass", "wait", None, "drain"))
        one, other = [(2, "trim", "marks", "same", "pass", "cut", 2, rest) for rest in ("drain", "leave")]
        found = ((0, 1, 1), (4, "length", 4, 3, "open"), ())
        self.assertEqual(slow_parting(kinds, [("length", "open")], one, other, 3), found)
        self.parting(found, kinds, [("length", "open")], one, other)
        kinds = ((0, "trim", "length", "same", "refuse", "wait", 0, "leave"), (1, "trim", "marks", "same", "refuse", "cut", 3, "leave"),
                 (None, "trim", "close", "same", "pass", "wait", 3, "drain"))
        one, other = [(0, "stream", "length", stream, "refuse", "wait", None, "leave") for stream in ("same", "marks")]
        found = ((1, 2), (3, "marks", None, 2, "open"), (0,))
        self.assertEqual(slow_parting(kinds, [("marks", "open")], one, other, 3), found)
        self.parting(found, kinds, [("marks", "open")], one, other)

    def test_no_senders(self):
        for kinds in ((PLAIN,), (MARKER, SMALL)):
            self.parting(None, kinds, [], PLAIN, ENDER)
            self.assertEqual(likeness(kinds, [], PLAIN, ENDER), ([], []))

    def test_by_chance(self):
        sizes = {}
        for kinds, senders, one, other in draws(242, 400):
            found = parting(kinds, senders, one, other)
            many = 0 if found is None else len(found[0]) + len(found[2])
            with self.subTest(kinds=kinds, senders=senders, one=one, other=other):
                if found is None:
                    self.assertIsNone(slow_parting(kinds, senders, one, other, 2))
                else:
                    self.assertEqual(found, slow_parting(kinds, senders, one, other, many))
                self.parting(found, kinds, senders, one, other)
            sizes[many] = sizes.get(many, 0) + (found is not None)
        self.assertTrue(sizes[0] > 50 and sizes[1] > 5, sizes)

    def test_longer_ones(self):
        # Among many draws those that take several relays, checked against all rows that are not longer.
        found_ones, both = 0, 0
        for kinds, senders, one, other in draws(243, 20000, most=3, sizes=(None, 2)):
            senders = [sender for sender in senders if sender[1] != "open"][:1]
            found = parting(kinds, senders, one, other)
            if found is not None and len(found[0]) + len(found[2]) > 1:
                found_ones += 1
                both += bool(found[0]) and bool(found[2])
                with self.subTest(kinds=kinds, senders=senders, one=one, other=other):
                    self.assertEqual(found, slow_parting(kinds, senders, one, other, len(found[0]) + len(found[2])))
        self.assertGreater(found_ones, 12)
        self.assertGreater(both, 5)

    def test_the_order_and_repetition_of_senders_do_not_count(self):
        for kinds, senders, one, other in draws(244, 60):
            expected = parting(kinds, senders, one, other)
            self.parting(expected, kinds, senders[::-1], one, other)
            self.parting(expected, kinds, senders + senders, one, other)

    def test_large_numbers(self):
        one, other = relay_of(limit=10 ** 9, rest="leave"), relay_of(limit=10 ** 9)
        units = 10 ** 9 + 1
        self.parting(((), (units, "marks", None, units, "mark"), ()), (PLAIN,), [("marks", "none")], one, other)


class Likenesses(unittest.TestCase):
    def test_by_hand(self):
        kinds = (relay_of(limit=5),)
        some, pairs = likeness(kinds, TELLER, PLAIN, MARKER)
        self.assertEqual(some, [(units, "length", units, units, "open") for units in (0, 1, 5, 6)])
        marked = [((units, "length", units, units, "open"), (units, "marks", None, units, "mark")) for units in (0, 1, 5, 6)]
        told = [((units, "length", units, units, "open"),) * 2 for units in (0, 1, 5)]
        self.assertEqual(pairs, [told[0], marked[0], told[1], marked[1], told[2], marked[2], marked[3]])

    def test_what_is_not_sent_on_is_in_no_pair(self):
        self.assertEqual(likeness((REFUSER,), [("length", "open")], REFUSER, REFUSER),
                         ([(1, "length", 1, 0, "open"), (2, "length", 2, 1, "open")], []))

    def test_by_chance(self):
        alike = 0
        for kinds, senders, one, other in draws(245, 500):
            expected = slow_likeness(kinds, senders, one, other)
            with self.subTest(kinds=kinds, senders=senders, one=one, other=other):
                found = likeness(kinds, senders, one, other)
                self.assertEqual(found, expected)
                self.assertIs(are_alike_everywhere(kinds, senders, one, other), expected is not None)
                if found is not None:
                    alike += one != other and len(found[1]) > 0
                    self.assertIs(type(found), tuple)
                    self.assertEqual([type(part) for part in found], [list, list])
                    bounds = bounds_of(kinds + (one, other))
                    self.assertTrue(all(is_standing(sending, bounds) for sending in found[0]))
                    self.assertTrue(all(pushed_pair(*pair, bounds) == pair for pair in found[1]))
        self.assertGreater(alike, 60)

    def test_new_lists(self):
        found = likeness((PLAIN,), TELLER, PLAIN, ENDER)
        found[0].clear()
        found[1].clear()
        self.assertEqual([len(part) for part in likeness((PLAIN,), TELLER, PLAIN, ENDER)], [2, 2])


class ShowsParting(unittest.TestCase):
    KINDS = (relay_of(hold=2, limit=5, over="trim"), PLAIN)

    def shows(self, expected, thing, kinds=None, senders=TELLER, one=PLAIN, other=MARKER):
        with self.subTest(thing=thing):
            self.assertIs(shows_parting(kinds or self.KINDS, senders, one, other, thing), expected)
            self.assertIs(shows_parting(kinds or self.KINDS, senders, other, one, thing), expected)

    def test_all_short_rows(self):
        shown = 0
        chance = random.Random(246)
        rows = [row for many in range(3) for row in itertools.product((0, 1), repeat=many)]
        for kinds, senders, one, other in draws(247, 60):
            kinds = (kinds * 2)[:2]
            sendings = model_sent(senders, 6)
            for ahead, behind in itertools.product(rows, rows):
                for sending in chance.choices(sendings, k=4) if sendings else []:
                    expected = tells_apart(kinds, one, other, ahead, sending, behind)
                    self.shows(expected, (ahead, sending, behind), kinds, senders, one, other)
                    shown += expected
        self.assertGreater(shown, 500)

    def test_partings_that_are_not_the_least(self):
        told = (6, "length", 6, 6, "open")
        for many in (0, 1, 2, 50, 100):
            self.shows(True, ((1,) * many, told, (0,)))
            self.shows(True, ((1,) * many, told, (0,) + (1,) * many))
            self.shows(True, ((), told, (0,) + (0,) * many))
            # A relay ahead of the one that is told apart by the way makes the two ways one.
            self.shows(False, ((), told, (1,) * (many + 1) + (0,)))
            self.shows(False, ((0,) * (many + 1), told, (1,) * many + (0,)))
        for units in (6, 7, 100, LARGE):
            self.shows(True, ((), (units, "length", units, units, "open"), (0,)))
        for units in (0, 1, 5):
            self.shows(False, ((), (units, "length", units, units, "open"), (0,)))

    def test_what_no_sender_sends(self):
        for sending in [(6, "marks", None, 6, "mark"), (6, "length", 7, 6, "open"), (6, "length", 7, 7, "open"),
                        (7, "length", 6, 6, "open"), (6, "length", 6, 6, "shut"), (6, "length", 6, 5, "open")]:
            self.shows(False, ((), sending, (0,)))
        self.shows(False, ((), (6, "length", 6, 6, "open"), (0,)), senders=[])

    def test_objects_of_another_form(self):
        told = (6, "length", 6, 6, "open")
        self.shows(True, ((), told, (0,)))
        things = NOTHINGS + [
            None, (), [(), told, (0,)], ((), told), ((), told, (0,), 0), ([], told, (0,)), ((), told, [0]), ((), told, 0),
            ((), list(told), (0,)), ((), None, (0,)), ((), told, (2,)), ((), told, (0, 2)), ((), told, (-1,)), ((2,), told, (0,)),
            ((), told, (False,)), ((True,), told, (0,)), ((), told, (None,)), ((), told, ("0",)), ((), told, ([0],)),
            (None, told, (0,)), ((), told, None), ((), told[:4], (0,)), ((), (6, "length", 6, True, "open"), (0,)),
            ((0,), told), {(): told}, (told, (), (0,)), ((), (0,), told), ((), told, ((0,),)), ((-1,), told, (0,)),
        ]
        for thing in things:
            self.shows(False, thing)

    def test_a_difference_that_nobody_reads(self):
        # The two outs differ, but they are read alike.
        self.shows(False, ((), (6, "length", 6, 6, "open"), ()))
        self.shows(False, ((), (6, "length", 6, 6, "open"), (1,)))


class ShowsLikeness(unittest.TestCase):
    KINDS = (relay_of(limit=5),)

    def shows(self, expected, thing, kinds=None, senders=TELLER, one=PLAIN, other=MARKER):
        with self.subTest(thing=thing):
            self.assertIs(shows_likeness(kinds or self.KINDS, senders, one, other, thing), expected)

    def test_the_least_one_in_any_order(self):
        chance, alike = random.Random(248), 0
        for kinds, senders, one, other in draws(249, 300):
            found = likeness(kinds, senders, one, other)
            if found is not None:
                alike += 1
                some, pairs = found
                self.shows(True, found, kinds, senders, one, other)
                self.shows(True, (some[::-1], pairs[::-1]), kinds, senders, one, other)
                mixed = (chance.sample(some, len(some)), chance.sample(pairs, len(pairs)))
                self.shows(True, mixed, kinds, senders, one, other)
                turned = (some, [pair[::-1] for pair in pairs])
                self.shows(True, turned, kinds, senders, other, one)
                for wrong in ((some[1:], pairs), (some, pairs[1:]), (some[:-1], pairs), (some, pairs[:-1])):
                    if wrong != found:
                        self.shows(False, wrong, kinds, senders, one, other)
                for twice in ((some + some[:1], pairs), (some, pairs[-1:] + pairs)):
                    if twice != found:
                        self.shows(False, twice, kinds, senders, one, other)
        self.assertGreater(alike, 100)

    def test_more_than_the_least_one(self):
        chance, told = random.Random(250), {True: 0, False: 0}
        for kinds, senders, one, other in draws(251, 150, most=2):
            found = likeness(kinds, senders, one, other)
            bounds = bounds_of(kinds + (one, other))
            if found is None or len(bounds) > 2:
                continue
            some, pairs = found
            near = right_sendings(3)
            others = sorted({model_pair(*chance.choices(near, k=2), bounds) for _ in range(300)} - set(pairs))
            others = [pair for pair in others if model_reading(pair[0]) == model_reading(pair[1])] or [(near[0], near[0])]
            more = [sending for sending in standings(bounds) if sending not in some]
            for _ in range(6):
                thing = (some + chance.sample(more, min(len(more), chance.randrange(3))),
                         pairs + chance.sample(others, min(len(others), chance.randrange(3))))
                expected = is_likeness(kinds, senders, one, other, thing)
                self.shows(expected, thing, kinds, senders, one, other)
                told[expected] += thing != found
        self.assertGreater(min(told.values()), 30, told)

    def test_no_likeness_of_relays_that_are_told_apart(self):
        for kinds, senders, one, other in draws(252, 150):
            found = likeness(kinds, senders, one, one)
            if not are_alike_everywhere(kinds, senders, one, other):
                self.shows(False, found, kinds, senders, one, other)
                self.shows(False, ([], []), kinds, senders, one, other)
                self.shows(False, (standings(bounds_of(kinds + (one, other))), found[1]), kinds, senders, one, other)

    def test_standings_that_lack(self):
        some, pairs = likeness(self.KINDS, TELLER, PLAIN, MARKER)
        for at in range(len(some)):
            self.shows(False, (some[:at] + some[at + 1:], pairs))
        # What a kind sends on lacks, though all sendings of the senders are there.
        kinds = (MARKER,)
        some, pairs = likeness(kinds, TELLER, PLAIN, PLAIN)
        starts = [sending for sending in some if sending[1] == "length"]
        self.assertLess(len(starts), len(some))
        self.shows(False, (starts, pairs), kinds, TELLER, PLAIN, PLAIN)
        self.shows(True, (some, pairs), kinds, TELLER, PLAIN, PLAIN)

    def test_pairs_that_lack(self):
        some, pairs = likeness(self.KINDS, TELLER, PLAIN, MARKER)
        for at in range(len(pairs)):
            self.shows(False, (some, pairs[:at] + pairs[at + 1:]))

    def test_troubles_of_the_two_relays_that_differ(self):
        one, other, kinds = relay_of(limit=5, rest="leave"), relay_of(limit=5), (relay_of(whole="close"),)
        some, pairs = likeness(kinds, CLOSER, one, other)
        self.assertEqual([len(some), len(pairs)], [4, 6])
        self.shows(True, (some, pairs), kinds, CLOSER, one, other)
        self.shows(False, (some + [(6, "marks", None, 6, "mark")], pairs), kinds, CLOSER, one, other)
        self.shows(True, (some + [(5, "marks", None, 5, "mark")], pairs), kinds, CLOSER, one, other)

    def test_troubles_of_a_kind_that_differ(self):
        kinds = (relay_of(limit=5, rest="leave"),)
        pairs = [((units, "length", units, units, "open"),) * 2 for units in (0, 1, 5)]
        some = [pair[0] for pair in pairs] + [(6, "length", 6, 6, "open")]
        senders = TELLER
        found = likeness(kinds, senders, PLAIN, PLAIN)
        self.shows(True, found, kinds, senders, PLAIN, PLAIN)
        marked = ((6, "marks", None, 6, "mark"), (6, "close", None, 6, "shut"))
        self.shows(False, (some, found[1] + [marked]), kinds, senders, PLAIN, PLAIN)
        marked = ((5, "marks", None, 5, "mark"), (5, "close", None, 5, "shut"))
        self.shows(True, (some, found[1] + [marked]), kinds, senders, PLAIN, PLAIN)

    def test_pairs_that_are_not_read_alike(self):
        some, pairs = likeness(self.KINDS, TELLER, PLAIN, MARKER)
        for pair in [((1, "length", 1, 1, "open"), (1, "length", 1, 0, "open")),
                     ((1, "marks", None, 1, "mark"), (1, "marks", None, 0, "mark")),
                     ((1, "marks", None, 1, "open"), (1, "marks", None, 1, "shut"))]:
            self.shows(False, (some, pairs + [pair]))

        # No kind tells these two apart, but a reader behind the two relays would.
        for one, other, expected in [((1, "marks", None, 1, "shut"), (1, "marks", None, 0, "shut"), False),
                                     ((1, "marks", None, 1, "shut"), (1, "length", 1, 0, "shut"), False),
                                     ((1, "marks", None, 0, "shut"), (1, "length", 1, 0, "shut"), True)]:
            self.shows(expected, ([], [(one, other)]), (REFUSER,), [], PLAIN, PLAIN)

    def test_pairs_that_are_not_pushed_down(self):
        some, pairs = likeness(self.KINDS, TELLER, PLAIN, MARKER)
        right = ((1, "close", None, 1, "shut"), (1, "close", None, 1, "shut"))
        self.shows(True, (some, pairs + [right]))
        for wrong in [(2, "close", None, 2, "shut"), (7, "close", None, 7, "shut"), (3, "close", None, 1, "shut")]:
            self.shows(False, (some, pairs + [(wrong, wrong)]))
        # Pushed down one by one, but not together.
        one, other = (1, "close", None, 0, "shut"), (2, "close", None, 0, "shut")
        self.shows(False, (some, pairs + [(one, (3, "close", None, 0, "shut"))]))
        self.shows(True, (some, pairs + [(one, other)] + [((1, "length", 0, 0, "open"), (2, "length", 0, 0, "open"))]))

    def test_standings_that_are_none(self):
        some, pairs = likeness(self.KINDS, TELLER, PLAIN, MARKER)
        for wrong in [(2, "length", 2, 2, "open"), (1, "length", 1, 2, "open"), (True, "length", 1, 1, "open"), None, 1, [],
                      list(some[0]), some, (7, "length", 7, 7, "open"), "a", {}]:
            self.shows(False, (some + [wrong], pairs))

    def test_pairs_that_are_none(self):
        some, pairs = likeness(self.KINDS, TELLER, PLAIN, MARKER)
        one = some[1]
        for wrong in [(None, None), (one, None), (None, one), [one, one], (one,), (one, one, one), one, None, 1, "ab", {},
                      (list(one), one), (one, list(one)), ((True, "length", 1, 1, "open"), one), ((one, one),)]:
            self.shows(False, (some, pairs + [wrong]))

    def test_objects_of_another_form(self):
        some, pairs = likeness(self.KINDS, TELLER, PLAIN, MARKER)
        things = NOTHINGS + [
            None, (), [some, pairs], (some,), (some, pairs, []), (tuple(some), pairs), (some, tuple(pairs)), (pairs, some),
            {0: some}, ({}, {}), (None, None), (some, None), (None, pairs), ("", ""), ((), ()),
            ({one: True for one in some}, pairs), (some, {pair: True for pair in pairs}),
        ]
        for thing in things:
            self.shows(False, thing)
        self.shows(False, ([], []))
        self.shows(True, ([], []), senders=[])


class Sizes(unittest.TestCase):
    def test_six_kinds_with_four_holds_and_limits(self):
        chance = random.Random(253)
        sizes, apart = [None, 0, 3, 7, 11, 16], 0
        begin = time.monotonic()
        for number in range(60):
            kinds = tuple(random_relay(chance, sizes) for _ in range(6))
            one = random_relay(chance, sizes)
            other = one if number % 4 == 0 else near_relay(chance, one, sizes)
            found, same = parting(kinds, SENDERS, one, other), likeness(kinds, SENDERS, one, other)
            self.assertIs(found is None, same is not None)
            if found is None:
                self.assertIs(shows_likeness(kinds, SENDERS, one, other, same), True)
            else:
                apart += 1
                self.assertIs(shows_parting(kinds, SENDERS, one, other, found), True)
        # Seconds, not minutes, on any machine.
        self.assertLess(time.monotonic() - begin, 60)
        self.assertGreater(apart, 10)


class Errors(unittest.TestCase):
    KINDS = (MARKER, SMALL)

    def refused(self, error, kinds, senders, one, other, place=None):
        calls = [parting, likeness, are_alike_everywhere]
        calls += [lambda *told, thing=thing: shows_parting(*told, thing) for thing in (None, [], ((), 1, ()))]
        calls += [lambda *told, thing=thing: shows_likeness(*told, thing) for thing in (None, ([], []))]
        for number, call in enumerate(calls):
            with self.subTest(number=number, kinds=kinds, senders=senders, one=one, other=other):
                with self.assertRaises(error) as caught:
                    call(kinds, senders, one, other)
                self.assertIs(type(caught.exception), error)
                if place is not None:
                    self.assertEqual(caught.exception.place, place)

    def test_kinds(self):
        for kinds, place in NO_KINDS:
            self.refused(NoRelay, kinds, SENDERS, PLAIN, MARKER, place)
        for kinds in ((), (PLAIN,) * 7):
            self.refused(Mismatch, kinds, SENDERS, PLAIN, MARKER)

    def test_senders(self):
        for senders in WRONG_SENDERS:
            self.refused(NoSender, self.KINDS, senders, PLAIN, MARKER)

    def test_relays(self):
        for thing in NOTHINGS + [None, (), list(PLAIN), PLAIN[:7], (PLAIN,), (True,) + PLAIN[1:], PLAIN + (None,)]:
            self.refused(NoRelay, self.KINDS, SENDERS, thing, PLAIN, 0)
            self.refused(NoRelay, self.KINDS, [], PLAIN, thing, 1)
            self.refused(NoRelay, self.KINDS, [], thing, thing, 0)

    def test_of_two_wrong_things_the_first_one_counts(self):
        self.refused(NoRelay, [PLAIN], (), None, None, -1)
        self.refused(NoRelay, (PLAIN, 7), (), None, None, 1)
        self.refused(NoRelay, (PLAIN,) * 7 + (None,), None, None, None, 7)
        self.refused(Mismatch, (), (), None, None)
        self.refused(Mismatch, (PLAIN,) * 7, SENDERS, PLAIN, None)
        self.refused(NoSender, self.KINDS, (), None, None)
        self.refused(NoSender, self.KINDS, [None], PLAIN, None)

    def test_what_is_passed_stays(self):
        senders, wrong = list(TELLER), ([[0]], {"a": [1]})
        found = likeness(self.KINDS, senders, PLAIN, PLAIN)
        before = copy.deepcopy((senders, wrong, found))
        parting(self.KINDS, senders, PLAIN, MARKER)
        self.assertIs(shows_likeness(self.KINDS, senders, PLAIN, PLAIN, found), True)
        self.assertIs(shows_likeness(self.KINDS, senders, PLAIN, PLAIN, wrong), False)
        self.assertIs(shows_parting(self.KINDS, senders, PLAIN, MARKER, wrong), False)
        self.assertEqual((senders, wrong, found), before)


if __name__ == "__main__":
    unittest.main()
