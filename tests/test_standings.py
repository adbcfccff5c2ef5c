"""Point 9: bounds and standings."""

import copy
import itertools
import random
import unittest

from cutrelays.errors import NoBounds, NoRelay, NoSending
from cutrelays.relays import relayed
from cutrelays.standings import bounds_of, how_many, is_standing, pushed_down, standing, standings
from tools import (
    NOTHINGS, PLAIN, all_relays, model_reading, model_standing, model_troubles, order, random_relay, relay_of,
    right_sendings,
)

BOUNDS = [[0], [0, 1], [0, 2], [0, 3], [0, 4], [0, 5], [0, 1, 2], [0, 1, 3], [0, 2, 3], [0, 3, 5], [0, 4, 8], [0, 1, 2, 3],
          [0, 2, 4, 7], [0, 5, 6, 10], [0, 1, 3, 6, 10], [0, 10 ** 9], [0, 10 ** 9 - 1, 10 ** 9]]
NO_BOUNDS = [[], (), [1], [-1], [-1, 0], [0, 0], [0, 2, 2], [0, 3, 2], [0, 2, 1, 3], [2, 0], [False], [False, 1], [0, True],
             [0, -1], [0, None], [0, "1"], [0, [1]], [None], ["0"], [[]], [[0]], [(0,)], (1,), (0, 0), (0, True),
             (0, 3, 1), {0: 1}, {0: 0, 1: 1}, "0", "", "012", None, True, False, 0, 1, {}]
SENDING = (30, "length", 20, 7, "open")


class BoundsOf(unittest.TestCase):
    def gives(self, sizes, bounds):
        relays = tuple(relay_of(hold=hold, limit=limit) for hold, limit in sizes)
        with self.subTest(sizes=sizes):
            self.assertEqual(bounds_of(relays), bounds)

    def test_none(self):
        self.gives([], [0])
        self.gives([(None, None)], [0])
        self.gives([(None, None)] * 3, [0])

    def test_holds_and_limits(self):
        self.gives([(4, 9)], [0, 4, 9])
        self.gives([(9, 4)], [0, 4, 9])
        self.gives([(4, None), (None, 9)], [0, 4, 9])
        self.gives([(10, 2), (9, 100), (1, None)], [0, 1, 2, 9, 10, 100])
        self.gives([(10 ** 9, 10 ** 9 - 1)], [0, 10 ** 9 - 1, 10 ** 9])

    def test_each_once(self):
        self.gives([(0, 0)], [0])
        self.gives([(4, 4), (4, 9), (9, 0)], [0, 4, 9])

    def test_errors(self):
        for thing in NOTHINGS + [None, [PLAIN], [0, 4]]:
            if not isinstance(thing, tuple):
                with self.subTest(thing=thing), self.assertRaises(NoRelay) as caught:
                    bounds_of(thing)
                self.assertEqual(caught.exception.place, -1)
        for wrong in NOTHINGS + [None, list(PLAIN), relay_of(hold=True)]:
            with self.subTest(wrong=wrong), self.assertRaises(NoRelay) as caught:
                bounds_of((PLAIN, wrong, None))
            self.assertEqual(caught.exception.place, 1)

    def test_a_new_list(self):
        relays = (relay_of(hold=4),)
        bounds_of(relays).append(7)
        self.assertEqual(bounds_of(relays), [0, 4])
        self.assertIs(type(bounds_of(relays)), list)


class Standing(unittest.TestCase):
    def gives(self, sending, bounds, expected):
        for some in (list(bounds), tuple(bounds)):
            with self.subTest(sending=sending, bounds=some):
                self.assertEqual(standing(sending, some), expected)
                self.assertIs(is_standing(sending, some), sending == expected)
                self.assertIs(is_standing(expected, some), True)
                self.assertEqual(standing(expected, some), expected)

    def test_a_value_that_is_a_bound_stays(self):
        self.gives((4, "length", 9, 0, "open"), [0, 4, 9], (4, "length", 9, 0, "open"))
        self.gives((9, "marks", None, 4, "mark"), [0, 4, 9], (9, "marks", None, 4, "mark"))
        self.gives((0, "close", None, 0, "shut"), [0], (0, "close", None, 0, "shut"))

    def test_values_beside_a_bound(self):
        self.gives((5, "length", 8, 3, "open"), [0, 4, 9], (5, "length", 6, 1, "open"))
        self.gives((10, "marks", None, 5, "mark"), [0, 4, 9], (10, "marks", None, 5, "mark"))
        self.gives((8, "marks", None, 3, "mark"), [0, 4, 9], (5, "marks", None, 1, "mark"))

    def test_values_above_the_last_bound(self):
        self.gives((30, "length", 20, 10, "open"), [0, 4, 9], (12, "length", 11, 10, "open"))
        self.gives((10 ** 12, "length", 10 ** 12 - 1, 10 ** 12 - 2, "shut"), [0], (3, "length", 2, 1, "shut"))
        self.gives((10 ** 12, "close", None, 10 ** 12 - 5, "shut"), [0, 10 ** 9],
                   (10 ** 9 + 2, "close", None, 10 ** 9 + 1, "shut"))

    def test_values_that_are_equal(self):
        self.gives((7, "length", 7, 7, "open"), [0, 4, 9], (5, "length", 5, 5, "open"))
        self.gives((7, "length", 8, 7, "open"), [0, 4, 9], (5, "length", 6, 5, "open"))
        self.gives((8, "length", 8, 7, "open"), [0, 4, 9], (6, "length", 6, 5, "open"))
        self.gives((70, "marks", None, 70, "open"), [0, 4, 9], (10, "marks", None, 10, "open"))

    def test_values_in_several_gaps(self):
        self.gives((8, "length", 20, 3, "open"), [0, 4, 9], (5, "length", 10, 1, "open"))
        self.gives((8, "length", 20, 7, "open"), [0, 4, 9], (6, "length", 10, 5, "open"))
        self.gives((3, "length", 20, 2, "open"), [0, 4, 9], (2, "length", 10, 1, "open"))

    def test_neighbouring_bounds_with_few_numbers_between(self):
        self.gives((5, "length", 6, 4, "open"), [0, 4, 5, 6], (5, "length", 6, 4, "open"))
        self.gives((5, "length", 5, 5, "open"), [0, 4, 6], (5, "length", 5, 5, "open"))
        self.gives((6, "length", 6, 5, "open"), [0, 4, 7], (6, "length", 6, 5, "open"))
        self.gives((6, "length", 6, 6, "open"), [0, 4, 7], (5, "length", 5, 5, "open"))
        self.gives((6, "length", 7, 5, "open"), [0, 4, 8], (6, "length", 7, 5, "open"))
        self.gives((7, "length", 8, 6, "open"), [0, 4, 9], (6, "length", 7, 5, "open"))

    def test_the_order_of_the_values_stays(self):
        self.gives((2, "length", 30, 20, "shut"), [0], (1, "length", 3, 2, "shut"))
        self.gives((20, "length", 30, 2, "shut"), [0], (2, "length", 3, 1, "shut"))
        self.gives((30, "length", 20, 2, "shut"), [0], (3, "length", 2, 1, "shut"))
        self.gives((2, "close", None, 3, "open"), [0], (1, "close", None, 2, "open"))

    def test_told_does_not_count_if_there_is_none(self):
        self.gives((9, "marks", None, 3, "shut"), [0], (2, "marks", None, 1, "shut"))

    def test_all_small_sendings(self):
        for bounds in BOUNDS:
            for sending in right_sendings(6):
                found = standing(sending, bounds)
                self.assertEqual(found, model_standing(sending, bounds))
                self.assertLessEqual(order(found), order(sending))
                self.assertIs(is_standing(sending, bounds), found == sending)

    def test_the_least_of_all_that_have_it(self):
        for bounds in ([0], [0, 2], [0, 1, 4]):
            least = {}
            for sending in right_sendings(8):
                least.setdefault(standing(sending, bounds), sending)
            self.assertTrue(all(found == first for found, first in least.items()))

    def test_errors(self):
        for thing in NOTHINGS + [None, list(SENDING), SENDING[:4], (True,) + SENDING[1:], (5, "length", 2, 3, "open")]:
            for bounds in ([0], [1], None):
                with self.subTest(thing=thing, bounds=bounds), self.assertRaises(NoSending):
                    standing(thing, bounds)
        for bounds in NO_BOUNDS:
            with self.subTest(bounds=bounds), self.assertRaises(NoBounds):
                standing(SENDING, bounds)
        with self.assertRaises(NoBounds):
            standing(SENDING, list(range(50000)) + [49999])

    def test_many_bounds(self):
        self.assertEqual(standing((70001, "marks", None, 5, "open"), range_of(50000)), (50000, "marks", None, 5, "open"))

    def test_what_is_passed_stays(self):
        bounds, wrong = [0, 4, 9], [[0], [1]]
        standing(SENDING, bounds)
        standings(bounds)
        how_many(bounds)
        is_standing(wrong, bounds)
        with self.assertRaises(NoBounds):
            standings(wrong)
        self.assertEqual((bounds, wrong), ([0, 4, 9], [[0], [1]]))


def range_of(many):
    return list(range(many))


class IsStanding(unittest.TestCase):
    def test_objects_that_are_no_sendings(self):
        things = NOTHINGS + [None, [0, "close", None, 0, "shut"], (False, "close", None, 0, "shut"),
                             (0, "close", None, False, "shut"), (1, "length", True, 1, "open"), (0, "close", 0, 0, "shut"),
                             (0, "length", 0, 1, "open"), (0, "close", None, 0, "mark"), (0, "close", None, 0)]
        for thing in things:
            with self.subTest(thing=thing):
                self.assertIs(is_standing(copy.deepcopy(thing), [0, 4]), False)

    def test_a_standing_at_other_bounds(self):
        self.assertIs(is_standing((5, "marks", None, 4, "mark"), [0, 4]), True)
        self.assertIs(is_standing((5, "marks", None, 4, "mark"), [0]), False)
        self.assertIs(is_standing((3, "length", 2, 1, "open"), [0]), True)
        self.assertIs(is_standing((3, "marks", None, 1, "open"), [0]), False)
        self.assertIs(is_standing((4, "length", 2, 1, "open"), (0,)), False)


class Standings(unittest.TestCase):
    def test_they_are_all_that_are(self):
        for bounds in BOUNDS:
            if bounds[-1] < 20:
                most = bounds[-1] + 3
                expected = [sending for sending in right_sendings(most) if model_standing(sending, bounds) == sending]
                with self.subTest(bounds=bounds):
                    self.assertEqual(standings(bounds), expected)
                    self.assertEqual(standings(tuple(bounds)), expected)
                    self.assertEqual(how_many(bounds), len(expected))
                    self.assertEqual(how_many(tuple(bounds)), len(expected))

    def test_they_are_ascending_different_and_standings(self):
        for bounds in BOUNDS:
            found = standings(bounds)
            with self.subTest(bounds=bounds):
                self.assertEqual(found, sorted(found, key=order))
                self.assertEqual(len(found), len(set(found)))
                self.assertEqual(how_many(bounds), len(found))
                self.assertTrue(all(is_standing(one, bounds) for one in found))

    def test_each_standing_is_among_them(self):
        chance = random.Random(9)
        for bounds in BOUNDS:
            found = set(standings(bounds))
            near = [max(0, bound + step) for bound in bounds for step in range(-4, 5)] + [10 ** 12 - 1, 10 ** 12]
            for _ in range(300):
                meant, told, units = chance.choice(near), chance.choice(near), chance.choice(near)
                for sending in [(meant, "length", max(told, units), units, "open"), (meant, "marks", None, units, "mark")]:
                    self.assertIn(standing(sending, bounds), found)

    def test_how_many(self):
        self.assertEqual([how_many(bounds) for bounds in ([0], [0, 1], [0, 2], [0, 3], [0, 4], [0, 5])],
                         [62, 117, 202, 238, 244, 244])

    def test_how_many_of_very_many(self):
        # Each bound with a wide gap is as good as another one: N is twice their number, by the count of point 9.
        bounds = [10 * place for place in range(1000)]
        self.assertEqual(how_many(bounds), 2000 ** 3 + 6 * 2000 * 1000 + 6 * 1000 + 6 * (2000 ** 2 + 2 * 1000))

    def test_errors(self):
        for bounds in NO_BOUNDS:
            for function in (standings, how_many):
                with self.subTest(bounds=bounds, function=function.__name__), self.assertRaises(NoBounds):
                    function(bounds)

    def test_a_new_list(self):
        first = standings([0])
        first.clear()
        self.assertEqual(len(standings([0])), 62)
        self.assertIs(type(standings((0,))), list)


class Likeness(unittest.TestCase):
    """Sendings with the same standing are read, and relayed, alike."""

    def check(self, relay, bounds, sending):
        one = standing(sending, bounds)
        self.assertEqual(model_troubles(one), model_troubles(sending))
        self.assertEqual(model_reading(one)[0], model_reading(sending)[0])
        (out, troubles), (other, others) = relayed(relay, one), relayed(relay, sending)
        self.assertEqual(troubles, others)
        self.assertEqual(out is None, other is None)
        if out is not None:
            self.assertEqual(standing(out, bounds), standing(other, bounds))

    def test_small_relays(self):
        sendings = right_sendings(7)[::5]
        for relay in all_relays([None, 0, 3], [None, 2, 3])[::37]:
            for bounds in (bounds_of((relay,)), [0, 2, 3, 5]):
                for sending in sendings:
                    self.check(relay, bounds, sending)

    def test_by_chance(self):
        chance = random.Random(99)
        for _ in range(2000):
            relay = random_relay(chance, [None, 0, 4, 9])
            values = [chance.choice([0, 1, 3, 4, 5, 6, 7, 8, 9, 10, 11, 40, 41, 10 ** 12]) for _ in range(3)]
            end = chance.choice(["open", "shut"])
            self.check(relay, [0, 4, 9], (values[0], "length", max(values[1:]), min(values[1:]), end))
            self.check(relay, [0, 4, 9], (values[0], "marks", None, values[1], chance.choice([end, "mark"])))
            self.check(relay, [0, 4, 9], (values[0], "close", None, values[1], end))


class PushedDown(unittest.TestCase):
    def test_up_to_six_values(self):
        self.assertEqual(pushed_down((9, 5, 7, 6, 8, 40), [0, 4, 30]), {5: 5, 6: 6, 7: 7, 8: 8, 9: 9, 40: 31})
        self.assertEqual(pushed_down((25, 12, 3, 12), (0, 3)), {3: 3, 12: 4, 25: 5})
        for values in itertools.permutations((10, 20, 30)):
            self.assertEqual(pushed_down(values, [0]), {10: 1, 20: 2, 30: 3})


if __name__ == "__main__":
    unittest.main()
