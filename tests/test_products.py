"""The last two sentences of point 11: the products of kinds."""

import copy
import itertools
import random
import unittest

from cutrelays.errors import Mismatch, NoRelay, TooMany
from cutrelays.products import multiplication, power_of, product_of, products
from cutrelays.standings import bounds_of, standings
from cutrelays.tables import Table
from tools import NOTHINGS, PLAIN, model_outcome, model_relayed, random_relay, relay_of

CALLS = [products, lambda kinds: product_of(kinds, ()), multiplication, lambda kinds: power_of(kinds, 0, 1)]
MARKER = relay_of(whole="marks")
SMALL = relay_of(limit=4, rest="leave")
STREAMER = relay_of(hold=2, stream="marks")
# Four kinds with 60 products, and six with 61.
SIXTY = (
    relay_of(whole="marks", stream="close", limit=2, rest="drain"),
    relay_of(hold=1, whole="marks", cut="whole", wait="cut", rest="drain"),
    relay_of(whole="close", stream="marks"),
    relay_of(whole="marks", stream="close", cut="whole", wait="cut", limit=1, rest="drain"),
)
SIXTY_ONE = (
    relay_of(over="trim", stream="close", cut="refuse", limit=1, rest="drain"),
    relay_of(hold=2, stream="marks", wait="cut", limit=0),
    relay_of(hold=1, whole="close", cut="whole", wait="cut", rest="leave"),
    relay_of(hold=1, whole="close", cut="refuse", wait="cut", limit=1, rest="drain"),
    relay_of(whole="close", stream="marks", cut="refuse"),
    relay_of(hold=2, over="trim", whole="close", stream="close", limit=2),
)


def chain_of(kinds, places):
    return tuple(kinds[place] for place in places)


def row_of(kinds, places, sendings):
    return tuple(model_outcome(chain_of(kinds, places), sending) for sending in sendings)


def slow_products(kinds, longest):
    """Return the first chain with each table among all chains that are not longer."""
    sendings = standings(bounds_of(kinds))
    first = {}
    for length in range(longest + 1):
        for places in itertools.product(range(len(kinds)), repeat=length):
            first.setdefault(row_of(kinds, places, sendings), places)
    return list(first.values())


def model_products(kinds):
    """Return the same, of all chains, by making each first chain longer by each kind."""
    empty = tuple((sending, ()) for sending in standings(bounds_of(kinds)))
    first = {empty: ()}
    layer = [empty]
    while layer:
        reached = []
        for row in layer:
            for place, kind in enumerate(kinds):
                longer = tuple(gone_on(kind, *pair) for pair in row)
                if longer not in first:
                    first[longer] = first[row] + (place,)
                    reached.append(longer)
        layer = reached
    return list(first.values())


def gone_on(kind, out, words):
    if out is None:
        return (None, words)
    out, told = model_relayed(kind, out)
    return (out, tuple(sorted(set(words + told))))


def kinds_by_chance(seed, many, most):
    """Return the kinds of some draws: from one to three relays with few holds and limits, and not too many products."""
    chance, found = random.Random(seed), []
    while len(found) < many:
        kinds = tuple(random_relay(chance, [None, 0, 2]) for _ in range(chance.randrange(1, 4)))
        if len(products(kinds)) <= most:
            found.append(kinds)
    return found


class Lists(unittest.TestCase):
    def test_one_kind(self):
        self.assertEqual(products((PLAIN,)), [(), (0,)])
        self.assertEqual(products((MARKER,)), [(), (0,)])
        self.assertEqual(products((relay_of(hold=0),)), [(), (0,)])
        # Behind a relay that ends a cut body, the same relay is fooled.
        self.assertEqual(products((relay_of(whole="close", cut="whole", limit=3),)), [(), (0,), (0, 0)])

    def test_a_second_relay_that_counts(self):
        # The first one makes a body one with a mark, the second one refuses it, and the third one has nothing to do.
        turner = relay_of(whole="close", hold=0, over="trim")
        self.assertEqual(products((turner,)), [(), (0,), (0, 0)])
        self.assertEqual(products((turner,)), slow_products((turner,), 4))

    def test_two_kinds(self):
        self.assertEqual(products((PLAIN, MARKER)), [(), (0,), (1,)] + slow_products((PLAIN, MARKER), 3)[3:])
        self.assertEqual(products((PLAIN, relay_of(stream="close"))), slow_products((PLAIN, relay_of(stream="close")), 4))

    def test_equal_kinds(self):
        self.assertEqual(products((PLAIN, PLAIN)), [(), (0,)])
        self.assertEqual(products((MARKER,) * 6), [(), (0,)])
        kinds = (SMALL, STREAMER, SMALL)
        self.assertEqual(products(kinds), products(kinds[:2]))
        self.assertEqual(products(kinds), slow_products(kinds, max(len(places) for places in products(kinds)) + 1))

    def test_different_kinds_that_are_alike(self):
        one = relay_of(cut="refuse", wait="cut")
        self.assertEqual(products((one, relay_of(cut="refuse", wait="cut", stream="close"))), [(), (0,)])

    def test_each_told_chain_is_the_first_with_its_table(self):
        for kinds in kinds_by_chance(6, 25, 14):
            found = products(kinds)
            with self.subTest(kinds=kinds):
                self.assertEqual(found, slow_products(kinds, max(len(places) for places in found) + 1))
                self.assertEqual(found, sorted(found, key=lambda places: (len(places), places)))

    def test_their_tables_are_different_and_closed(self):
        for kinds in kinds_by_chance(7, 12, 30) + [(SMALL, STREAMER, MARKER)]:
            bounds = bounds_of(kinds)
            tables = [Table(chain_of(kinds, places), bounds) for places in products(kinds)]
            for one, other in itertools.combinations(tables, 2):
                self.assertFalse(one == other)
            steps = [Table((kind,), bounds) for kind in kinds]
            for table, step in itertools.product(tables, steps):
                self.assertEqual([table * step == other for other in tables].count(True), 1)

    def test_sixty_and_one_more(self):
        self.assertEqual(len(products(SIXTY)), 60)
        self.assertEqual(len(products(SIXTY + SIXTY[:2])), 60)
        self.assertEqual(len(multiplication(SIXTY)), 60)
        for call in CALLS:
            with self.assertRaises(TooMany) as caught:
                call(SIXTY_ONE)
            self.assertEqual(caught.exception.limit, 60)

    def test_as_many_as_there_are(self):
        self.assertEqual(len(model_products(SIXTY)), 60)
        self.assertEqual(len(model_products(SIXTY_ONE)), 61)
        for kinds in kinds_by_chance(5, 5, 60):
            self.assertEqual(products(kinds), model_products(kinds))

    def test_many_bounds(self):
        kinds = tuple(relay_of(limit=10 * place + 5, hold=10 * place + 3) for place in range(3))
        self.assertEqual(products(kinds), model_products(kinds))

    def test_new_lists(self):
        kinds = (PLAIN, MARKER)
        for call in (products, multiplication):
            first = call(kinds)
            kept = copy.deepcopy(first)
            first[0] = None
            if call is multiplication:
                first[1].clear()
            first.append(None)
            self.assertEqual(call(kinds), kept)
        self.assertEqual({type(row) for row in multiplication(kinds)}, {list})
        self.assertEqual({type(places) for places in products(kinds)}, {tuple})


class ProductsOf(unittest.TestCase):
    def test_the_chains_themselves(self):
        for kinds in kinds_by_chance(8, 20, 30) + [(PLAIN,), (SMALL, STREAMER)]:
            for place, places in enumerate(products(kinds)):
                self.assertEqual(product_of(kinds, places), place)
            self.assertEqual(product_of(kinds, ()), 0)

    def test_longer_chains(self):
        chance = random.Random(9)
        for kinds in kinds_by_chance(9, 20, 30):
            bounds, found = bounds_of(kinds), products(kinds)
            for length in (1, 2, 3, 5, 9):
                places = tuple(chance.randrange(len(kinds)) for _ in range(length))
                place = product_of(kinds, places)
                self.assertTrue(Table(chain_of(kinds, places), bounds) == Table(chain_of(kinds, found[place]), bounds))

    def test_a_very_long_chain(self):
        self.assertEqual(product_of((PLAIN, MARKER), (0, 1) * 20000), product_of((PLAIN, MARKER), (0, 1) * 3))

    def test_equal_kinds(self):
        self.assertEqual(product_of((PLAIN, MARKER, PLAIN), (2,)), 1)
        self.assertEqual(product_of((PLAIN, PLAIN), (1, 1, 0)), 1)


class Multiplication(unittest.TestCase):
    def test_one_kind(self):
        self.assertEqual(multiplication((PLAIN,)), [[0, 1], [1, 1]])

    def test_it_agrees_with_product_of(self):
        for kinds in kinds_by_chance(10, 6, 14) + [(SMALL, STREAMER)]:
            found, table = products(kinds), multiplication(kinds)
            self.assertEqual(len(table), len(found))
            for one, ahead in enumerate(found):
                self.assertEqual(len(table[one]), len(found))
                for other, behind in enumerate(found):
                    self.assertEqual(table[one][other], product_of(kinds, ahead + behind))

    def test_it_is_associative_and_0_changes_nothing(self):
        for kinds in kinds_by_chance(11, 10, 30) + [SIXTY]:
            table = multiplication(kinds)
            places = range(len(table))
            for one, other, last in itertools.product(places, repeat=3):
                self.assertEqual(table[table[one][other]][last], table[one][table[other][last]])
            self.assertEqual(table[0], list(places))
            self.assertEqual([row[0] for row in table], list(places))

    def test_the_other_one_stands_behind(self):
        kinds = (MARKER, relay_of(whole="close"))
        found, table = products(kinds), multiplication(kinds)
        self.assertEqual(table[1][2], product_of(kinds, (0, 1)))
        self.assertEqual(table[2][1], product_of(kinds, (1, 0)))
        self.assertNotEqual(table[1][2], table[2][1])
        self.assertEqual(found[:3], [(), (0,), (1,)])


class Powers(unittest.TestCase):
    def test_small_ones(self):
        for kinds in kinds_by_chance(12, 30, 30) + [SIXTY]:
            for place in range(len(kinds)):
                for n in range(7):
                    self.assertEqual(power_of(kinds, place, n), product_of(kinds, (place,) * n))

    def test_large_ones(self):
        for kinds in kinds_by_chance(13, 30, 30) + [SIXTY]:
            table = multiplication(kinds)
            for place in range(len(kinds)):
                for n in (10 ** 12, 10 ** 12 - 1, 2 ** 30 + 5, 61, 60):
                    self.assertEqual(power_of(kinds, place, n), self.squared(table, product_of(kinds, (place,)), n))

    def squared(self, table, product, n):
        found = 0
        for sign in f"{n:b}":
            found = table[found][found]
            if sign == "1":
                found = table[found][product]
        return found

    def test_n_of_0_and_1(self):
        kinds = (PLAIN, MARKER, PLAIN)
        self.assertEqual([power_of(kinds, place, 0) for place in range(3)], [0, 0, 0])
        self.assertEqual([power_of(kinds, place, 1) for place in range(3)], [1, 2, 1])

    def test_powers_that_go_on_for_some_relays(self):
        turner = relay_of(whole="close", hold=0, over="trim")
        self.assertEqual([power_of((turner,), 0, n) for n in (0, 1, 2, 3, 4, 10 ** 12)], [0, 1, 2, 2, 2, 2])


class Errors(unittest.TestCase):
    def refused(self, kinds, error, **fields):
        for call in CALLS:
            with self.subTest(kinds=kinds), self.assertRaises(error) as caught:
                call(kinds)
            for name, value in fields.items():
                self.assertEqual(getattr(caught.exception, name), value)

    def test_no_chain(self):
        for thing in NOTHINGS + [None, [PLAIN]]:
            if not isinstance(thing, tuple):
                self.refused(thing, NoRelay, place=-1)
        for wrong in NOTHINGS + [None, list(PLAIN), PLAIN[:7]]:
            self.refused((PLAIN, wrong), NoRelay, place=1)
        self.refused(PLAIN, NoRelay, place=0)

    def test_none_and_seven(self):
        self.refused((), Mismatch)
        self.refused((PLAIN,) * 7, Mismatch)
        self.refused(SIXTY_ONE + (PLAIN,), Mismatch)

    def test_of_two_wrong_things_the_first_one_counts(self):
        self.refused((PLAIN,) * 6 + (None,), NoRelay, place=6)
        self.refused((PLAIN, None) * 4, NoRelay, place=1)
        self.refused(SIXTY_ONE[:5] + (7,), NoRelay, place=5)

    def test_wrong_things_stay(self):
        thing = [[PLAIN], {"a": [1]}]
        before = copy.deepcopy(thing)
        self.refused(thing, NoRelay, place=-1)
        self.refused((PLAIN, thing), NoRelay, place=1)
        self.assertEqual(thing, before)


if __name__ == "__main__":
    unittest.main()
