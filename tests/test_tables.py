"""Points 10 and 11: tables of chains, their products, and chains that are alike."""

import copy
import itertools
import random
import unittest

from cutrelays.errors import Mismatch, NoBounds, NoRelay, NoSending
from cutrelays.standings import bounds_of, standings
from cutrelays.tables import Table, are_alike, first_difference
from tools import NOTHINGS, PLAIN, model_outcome, order, random_relay, relay_of, right_sendings

ENDER = relay_of(cut="whole")
SMALL = relay_of(limit=4, rest="leave")
STREAMER = relay_of(hold=2, stream="marks")
NO_BOUNDS = [[], (), [1], [0, 0], [0, 3, 2], [False], [0, True], [-1, 0], [0, None], ["0"], {0: 0}, "0", "", None, True, 0]
WHOLE = (9, "marks", None, 9, "mark")


class Making(unittest.TestCase):
    def test_attributes(self):
        for bounds in ([0, 2, 4], (0, 2, 4), [0, 2, 3, 4, 70]):
            table = Table((SMALL, STREAMER), bounds)
            self.assertEqual(table.chain, (SMALL, STREAMER))
            self.assertEqual(table.bounds, tuple(bounds))
            self.assertIs(type(table.chain), tuple)
            self.assertIs(type(table.bounds), tuple)

    def test_the_empty_chain(self):
        for bounds in ([0], (0, 4), [0, 1, 2, 9]):
            table = Table.empty(bounds)
            self.assertIsInstance(table, Table)
            self.assertEqual((table.chain, table.bounds), ((), tuple(bounds)))
            self.assertTrue(table == Table((), bounds))
            for sending in standings(bounds):
                self.assertEqual(table[sending], (sending, ()))

    def test_the_bounds_may_be_changed_afterwards(self):
        bounds = [0, 4]
        table = Table((SMALL,), bounds)
        bounds.append(7)
        self.assertEqual(table.bounds, (0, 4))
        self.assertEqual(len(table), len(standings([0, 4])))
        self.assertEqual(bounds, [0, 4, 7])

    def test_no_relay(self):
        for thing in NOTHINGS + [None, [PLAIN]]:
            if not isinstance(thing, tuple):
                with self.subTest(thing=thing), self.assertRaises(NoRelay) as caught:
                    Table(thing, [0])
                self.assertEqual(caught.exception.place, -1)
        for wrong in NOTHINGS + [None, list(PLAIN)]:
            with self.subTest(wrong=wrong), self.assertRaises(NoRelay) as caught:
                Table((PLAIN, SMALL, wrong, None), [1])
            self.assertEqual(caught.exception.place, 2)

    def test_no_bounds(self):
        for bounds in NO_BOUNDS:
            for make in (lambda: Table((PLAIN,), bounds), lambda: Table((SMALL,), bounds), lambda: Table.empty(bounds)):
                with self.subTest(bounds=bounds), self.assertRaises(NoBounds):
                    make()

    def test_a_bound_that_lacks(self):
        for chain, bounds in [((SMALL,), [0]), ((SMALL,), [0, 3, 5]), ((PLAIN, STREAMER), (0, 4)),
                              ((SMALL, STREAMER), [0, 2]), ((SMALL, STREAMER), [0, 4])]:
            with self.subTest(bounds=bounds), self.assertRaises(Mismatch):
                Table(chain, bounds)
        Table((relay_of(hold=0, limit=0),), [0])

    def test_of_two_wrong_things_the_first_one_counts(self):
        with self.assertRaises(NoRelay):
            Table((SMALL, None), [1])
        with self.assertRaises(NoRelay):
            Table([SMALL], [0])
        with self.assertRaises(NoBounds):
            Table((SMALL,), [0, 3, 3])


class Reading(unittest.TestCase):
    CHAINS = [(), (PLAIN,), (SMALL,), (STREAMER, SMALL), (SMALL, ENDER, STREAMER), (ENDER,) * 3]

    def test_each_standing(self):
        for chain in self.CHAINS:
            for bounds in (bounds_of(chain), [0, 2, 4], [0, 1, 2, 4, 6]):
                if set(bounds_of(chain)) <= set(bounds):
                    table = Table(chain, bounds)
                    for sending in standings(bounds):
                        self.assertEqual(table[sending], model_outcome(chain, sending))
                        self.assertEqual(table(sending), model_outcome(chain, sending))
                        self.assertIs(sending in table, True)
                    self.assertEqual(len(table), len(standings(bounds)))

    def test_call_takes_any_sending(self):
        for chain in self.CHAINS:
            table = Table(chain, [0, 2, 4])
            for sending in right_sendings(7)[::3] + [(10 ** 12, "length", 10 ** 12, 10 ** 11, "shut"), WHOLE]:
                self.assertEqual(table(sending), model_outcome(chain, sending))

    def test_call_of_no_sending(self):
        for thing in NOTHINGS + [None, list(WHOLE), WHOLE[:4], (True,) + WHOLE[1:], (5, "length", 2, 3, "open"), PLAIN]:
            with self.subTest(thing=thing), self.assertRaises(NoSending):
                Table((SMALL,), [0, 4])(thing)

    def test_index_and_in_of_what_is_no_standing(self):
        table = Table((SMALL,), [0, 4])
        things = NOTHINGS + [
            None, (9, "close", None, 9, "shut"), (8, "length", 6, 5, "open"), [0, "close", None, 0, "shut"], WHOLE,
            (False, "close", None, 0, "shut"), (1, "length", True, 1, "open"), (1, "marks", 1, 1, "mark"),
        ]
        for thing in things:
            with self.subTest(thing=thing):
                self.assertIs(thing in table, False)
                with self.assertRaises(NoSending):
                    table[thing]

    def test_a_table_is_not_iterated_over(self):
        with self.assertRaises(TypeError):
            list(Table.empty([0]))

    def test_what_is_told_may_be_changed(self):
        table = Table((SMALL,), [0, 4])
        before = [table[one] for one in standings([0, 4])]
        self.assertEqual({type(pair) for pair in before}, {tuple})
        self.assertEqual([table[one] for one in standings([0, 4])], before)


class Products(unittest.TestCase):
    def agree(self, table, chain, bounds):
        """Check a product against the longer chain."""
        self.assertEqual((table.chain, table.bounds), (chain, tuple(bounds)))
        self.assertTrue(table == Table(chain, bounds))
        for sending in standings(bounds):
            self.assertEqual(table[sending], model_outcome(chain, sending))

    def test_against_the_longer_chain(self):
        bounds = [0, 2, 4]
        chains = [(), (PLAIN,), (SMALL,), (STREAMER, SMALL), (SMALL, STREAMER)]
        for one, other in itertools.product(chains, chains):
            self.agree(Table(one, bounds) * Table(other, bounds), one + other, bounds)

    def test_by_chance(self):
        chance = random.Random(11)
        for _ in range(60):
            chains = [tuple(random_relay(chance, [None, 0, 3]) for _ in range(chance.randrange(4))) for _ in range(3)]
            one, other, last = [Table(chain, [0, 3]) for chain in chains]
            self.agree(one * other, chains[0] + chains[1], [0, 3])
            self.assertTrue((one * other) * last == one * (other * last))

    def test_powers(self):
        for chain in [(), (PLAIN,), (SMALL,), (STREAMER, SMALL)]:
            bounds = [0, 2, 4]
            table, product = Table(chain, bounds), Table.empty(bounds)
            for n in range(5):
                self.agree(table ** n, chain * n, bounds)
                self.assertTrue(table ** n == product)
                product = product * table
            self.agree(table ** 20, chain * 20, bounds)

    def test_power_0_is_the_empty_table(self):
        self.assertTrue(Table((SMALL,), [0, 4]) ** 0 == Table.empty([0, 4]))
        self.assertFalse(Table((SMALL,), [0, 4]) ** 0 == Table((SMALL,), [0, 4]))

    def test_the_empty_table_changes_nothing(self):
        table, empty = Table((STREAMER, SMALL), [0, 2, 4]), Table.empty((0, 2, 4))
        self.assertTrue(table * empty == table)
        self.assertTrue(empty * table == table)

    def test_order_counts(self):
        one, other = Table((STREAMER,), [0, 2]), Table((ENDER,), [0, 2])
        self.assertFalse(one * other == other * one)

    def test_the_tables_that_are_multiplied_stay(self):
        one, other = Table((STREAMER,), [0, 2, 4]), Table((SMALL,), [0, 2, 4])
        before = [(table.chain, table.bounds, [table[each] for each in standings([0, 2, 4])]) for table in (one, other)]
        one * other
        one * one
        one ** 3
        one == other
        after = [(table.chain, table.bounds, [table[each] for each in standings([0, 2, 4])]) for table in (one, other)]
        self.assertEqual(before, after)

    def test_different_bounds(self):
        for one, other in [([0], [0, 4]), ([0, 4], [0]), ([0, 2, 4], [0, 3, 4])]:
            with self.assertRaises(Mismatch):
                Table.empty(one) * Table.empty(other)
        with self.assertRaises(Mismatch):
            Table((SMALL,), [0, 4]) * Table((SMALL,), [0, 4, 5])

    def test_a_list_and_a_tuple_of_the_same_bounds(self):
        self.assertTrue(Table((SMALL,), [0, 4]) * Table((PLAIN,), (0, 4)) == Table((SMALL, PLAIN), (0, 4)))


class Equality(unittest.TestCase):
    def same(self, one, other, expected):
        self.assertIs(one == other, expected)
        self.assertIs(other == one, expected)
        self.assertIs(one != other, not expected)

    def test_different_chains_with_equal_maps(self):
        self.same(Table((PLAIN,), [0]), Table((PLAIN, PLAIN), [0]), True)
        self.same(Table((relay_of(hold=0, over="trim", whole="close"),), [0]),
                  Table((relay_of(hold=0, over="trim", whole="close", stream="close"),), [0]), False)
        self.same(Table((SMALL,), [0, 4]), Table((relay_of(limit=4, rest="leave", hold=4, over="trim"),), [0, 4]), True)
        self.same(Table((relay_of(hold=0, over="trim", cut="whole"),), [0]),
                  Table((relay_of(hold=0, over="trim", cut="whole", stream="marks"),), [0]), True)

    def test_outs_alone_differ(self):
        self.same(Table((PLAIN,), [0]), Table((relay_of(whole="marks"),), [0]), False)
        self.same(Table((), [0]), Table((PLAIN,), [0]), False)

    def test_words_alone_differ(self):
        drain, leave = relay_of(limit=4, rest="drain"), relay_of(limit=4, rest="leave")
        self.same(Table((drain,), [0, 4]), Table((leave,), [0, 4]), False)

    def test_other_bounds(self):
        self.same(Table((PLAIN,), [0]), Table((PLAIN,), [0, 1]), False)
        self.same(Table.empty([0, 1]), Table.empty([0, 2]), False)
        self.same(Table.empty([0, 1]), Table.empty((0, 1)), True)

    def test_other_objects(self):
        table = Table((), [0])
        for thing in NOTHINGS + [None, (), [], (0,), [(), (0,)]]:
            self.same(table, thing, False)

    def test_tables_at_the_bounds_of_both_are_equal_if_they_are_alike(self):
        chance = random.Random(10)
        seen = []
        for _ in range(300):
            chains = [tuple(random_relay(chance, [None, 2]) for _ in range(chance.randrange(3))) for _ in range(2)]
            if chance.randrange(2):
                # Half of the pairs differ by no more than a relay behind another one.
                chains[1] = chains[0] + chains[0][-1:]
            bounds = bounds_of(chains[0] + chains[1])
            alike = Table(chains[0], bounds) == Table(chains[1], bounds)
            self.assertIs(are_alike(*chains), alike)
            seen.append(alike)
        self.assertIn(True, seen)
        self.assertIn(False, seen)


def slow_difference(one, other, most):
    """Return the least sending, with values up to most, that two chains lead to two outcomes, or None."""
    for sending in right_sendings(most):
        if model_outcome(one, sending) != model_outcome(other, sending):
            return sending
    return None


class Differences(unittest.TestCase):
    def differ(self, one, other, expected):
        with self.subTest(one=one, other=other):
            for pair in ((one, other), (other, one)):
                self.assertEqual(first_difference(*pair), expected)
                self.assertIs(are_alike(*pair), expected is None)

    def test_alike_though_different(self):
        self.differ((), (), None)
        self.differ((PLAIN,), (PLAIN, PLAIN), None)
        self.differ((PLAIN, PLAIN), (PLAIN, PLAIN, PLAIN, PLAIN), None)
        self.differ((relay_of(wait="cut", cut="refuse"),), (relay_of(wait="cut", cut="refuse", stream="close"),), None)
        self.differ((relay_of(limit=5), relay_of(limit=7)), (relay_of(limit=5),), None)

    def test_a_relay_that_changes_the_end_alone(self):
        self.differ((PLAIN,), (), (0, "length", 0, 0, "shut"))

    def test_the_least_sending_among_several(self):
        self.differ((relay_of(limit=4),), (PLAIN,), (0, "length", 5, 0, "open"))
        self.differ((relay_of(limit=4),), (relay_of(limit=7),), (0, "length", 5, 0, "open"))
        self.differ((relay_of(limit=4, rest="drain"),), (PLAIN,), (0, "length", 5, 0, "shut"))
        self.differ((relay_of(limit=4, cut="refuse"),), (relay_of(limit=7, cut="refuse"),), (0, "length", 5, 0, "open"))
        refuser, holder = relay_of(cut="refuse", wait="cut"), relay_of(cut="refuse", wait="cut", limit=4)
        self.differ((refuser,), (holder,), (0, "length", 5, 5, "open"))
        self.differ((relay_of(hold=3, cut="refuse", wait="cut"),), (refuser,), (0, "length", 5, 4, "open"))
        self.differ((relay_of(whole="marks"),), (PLAIN,), (0, "length", 0, 0, "open"))
        self.differ((relay_of(cut="whole"),), (PLAIN,), (0, "length", 1, 0, "shut"))
        self.differ((relay_of(wait="cut"),), (PLAIN,), (0, "length", 1, 0, "open"))

    def test_words_alone(self):
        self.differ((relay_of(limit=0, rest="leave"),), (relay_of(limit=0, rest="shut"),), (0, "length", 1, 1, "open"))

    def test_the_words_of_the_reader_do_not_count(self):
        self.differ((PLAIN, PLAIN), (PLAIN,), None)

    def test_by_chance(self):
        chance = random.Random(12)
        for _ in range(400):
            one, other = [tuple(random_relay(chance, [None, 0, 2, 3]) for _ in range(chance.randrange(3)))
                          for _ in range(2)]
            if chance.randrange(2) and one:
                settings = list(one[0])
                place = chance.randrange(8)
                settings[place] = random_relay(chance, [None, 0, 2, 3])[place]
                other = (tuple(settings),) + one[1:]
            self.differ(one, other, slow_difference(one, other, 6))

    def test_it_is_a_standing(self):
        for one, other in [((SMALL,), (PLAIN,)), ((STREAMER,), (PLAIN, SMALL)), ((relay_of(limit=10 ** 9),), (PLAIN,))]:
            self.assertIn(first_difference(one, other), standings(bounds_of(one + other)))
        self.differ((relay_of(limit=10 ** 9),), (PLAIN,), (0, "length", 10 ** 9 + 1, 0, "open"))

    def test_long_chains(self):
        relays = tuple(relay_of(limit=10 * place + 5, hold=10 * place) for place in range(3))
        self.differ(relays * 4, relays * 4, None)

    def test_errors(self):
        for function in (first_difference, are_alike):
            for one, other, place in [([], (), -1), ((), [], -1), ((None,), (PLAIN, None), 0), ((PLAIN, None), (None,), 1),
                                      ((PLAIN,), (PLAIN, PLAIN, 7), 2), (None, (None,), -1), ((PLAIN,), None, -1),
                                      ((PLAIN, PLAIN, ()), "x", 2)]:
                with self.subTest(one=one, other=other), self.assertRaises(NoRelay) as caught:
                    function(one, other)
                self.assertEqual(caught.exception.place, place)

    def test_wrong_things_stay(self):
        thing = [[PLAIN], {"a": [1]}]
        before = copy.deepcopy(thing)
        with self.assertRaises(NoRelay):
            first_difference((), thing)
        with self.assertRaises(NoRelay):
            Table(thing, [0])
        with self.assertRaises(NoBounds):
            Table((), thing)
        self.assertIs(thing in Table((), [0]), False)
        self.assertEqual(thing, before)

    def test_the_order_of_the_small_sendings_is_that_of_point_3(self):
        self.assertEqual(right_sendings(3), sorted(right_sendings(3), key=order))


if __name__ == "__main__":
    unittest.main()
