"""Point 15: changes of kinds, their choices and prices, and the cheapest one that is safe."""

import copy
import itertools
import random
import time
import unittest

from cases import (
    CLOSER, ENDER, MARKER, NO_KINDS, REFUSER, SENDERS, SMALL, WORDS, WRONG_LINKS, WRONG_SENDERS, WRONG_WORDS, all_chains,
    all_links, sendings_of,
)
from cutrelays.errors import Mismatch, NoChange, NoRelay, NoSender, NoWord, TooMany
from cutrelays.judges import shows_bad, shows_closed
from cutrelays.mends import cheapest, choices, mended, price_of, shows_cheapest
from cutrelays.safety import are_safe, bad_chain, closed_list
from tools import NOTHINGS, PLAIN, deep, model_run, random_relay, relay_of

KINDS = (MARKER, SMALL)
DRAIN = relay_of(limit=5, rest="drain")
CLOSING = relay_of(whole="close")
EXAMPLE = [(1, DRAIN, 4), (0, CLOSING, 4), (1, PLAIN, 1)]


def model_choices(changes):
    """Return all choices in their order, from all subsets."""
    found = []
    for many in range(len(changes) + 1):
        for choice in itertools.combinations(range(len(changes)), many):
            places = [changes[at][0] for at in choice]
            if len(set(places)) == many:
                found.append(choice)
    return sorted(found, key=lambda choice: (sum(changes[at][2] for at in choice), choice))


def model_mended(kinds, changes, choice):
    replaced = {changes[at][0]: changes[at][1] for at in choice}
    return tuple(replaced.get(place, kind) for place, kind in enumerate(kinds))


def draws(seed, many, most_changes=4):
    """Return (kinds, links, senders, unwanted, changes) of some draws."""
    chance, found = random.Random(seed), []
    sizes = [None, None, 0, 2]
    for _ in range(many):
        kinds = tuple(random_relay(chance, sizes) for _ in range(chance.randrange(1, 4)))
        links = None
        if chance.randrange(2):
            links = tuple(link for link in all_links(kinds) if chance.randrange(3))
        changes = [(chance.randrange(len(kinds)), random_relay(chance, sizes), chance.choice([0, 1, 1, 2, 5]))
                   for _ in range(chance.randrange(most_changes + 1))]
        senders = chance.sample(SENDERS, chance.choice([0, 1, 1, 2]))
        unwanted = tuple(chance.sample(WORDS, chance.choice([0, 1, 1, 2])))
        found.append((kinds, links, senders, unwanted, changes))
    return found


class Choices(unittest.TestCase):
    def choices(self, expected, changes, kinds=KINDS):
        with self.subTest(changes=changes):
            self.assertEqual(list(choices(kinds, changes)), expected)

    def test_no_change_and_one(self):
        self.choices([()], [])
        for price in (0, 1, 10 ** 12):
            self.choices([(), (0,)], [(1, PLAIN, price)])

    def test_changes_of_the_same_place(self):
        self.choices([(), (1,), (0,), (2,)], [(0, PLAIN, 2), (0, ENDER, 1), (0, SMALL, 3)])
        self.choices([(), (0,), (1,)], [(0, PLAIN, 2), (0, PLAIN, 2)])
        self.choices([(), (1,), (0,), (0, 1)], [(0, PLAIN, 2), (1, PLAIN, 1)])

    def test_equal_prices_go_by_the_tuples(self):
        self.choices([(), (0,), (1,), (0, 1)], [(0, PLAIN, 2), (1, PLAIN, 2)])
        changes = [(0, PLAIN, 2), (1, PLAIN, 1), (2, PLAIN, 1)]
        self.choices([(), (1,), (2,), (0,), (1, 2), (0, 1), (0, 2), (0, 1, 2)], changes, KINDS + (PLAIN,))

    def test_price_zero(self):
        self.choices([(), (0,), (0, 1), (1,)], [(0, PLAIN, 0), (1, PLAIN, 0)])
        self.choices([(), (1,), (0,), (0, 1)], [(0, PLAIN, 3), (1, PLAIN, 0)])
        self.choices([(), (0,), (0, 1), (1,)], [(0, PLAIN, 0), (1, PLAIN, 3)])

    def test_the_example(self):
        self.choices([(), (2,), (0,), (1,), (1, 2), (0, 1)], EXAMPLE)

    def test_six(self):
        changes = [(place, PLAIN, price) for place, price in enumerate((4, 0, 7, 1, 1, 3))]
        found = list(choices((PLAIN,) * 6, changes))
        self.assertEqual(len(found), 64)
        self.assertEqual(found, model_choices(changes))
        self.assertEqual(found[:3] + found[-2:], [(), (1,), (1, 3), (0, 1, 2, 3, 4, 5), (0, 2, 3, 4, 5)])

    def test_by_chance(self):
        for kinds, _, _, _, changes in draws(261, 300, 6):
            self.choices(model_choices(changes), changes, kinds)

    def test_they_are_generated(self):
        found = choices(KINDS, EXAMPLE)
        self.assertIs(iter(found), found)
        self.assertEqual([next(found), next(found)], [(), (2,)])
        self.assertEqual(list(found), [(0,), (1,), (1, 2), (0, 1)])
        self.assertEqual(list(found), [])

    def test_changes_that_are_changed_amid(self):
        changes = list(EXAMPLE)
        found = choices(KINDS, changes)
        next(found)
        changes.clear()
        self.assertEqual(len(list(found)), 5)


class Prices(unittest.TestCase):
    def test_sums(self):
        changes = [(0, PLAIN, 4), (1, PLAIN, 0), (0, ENDER, 10 ** 12), (2, PLAIN, 7)]
        for choice, price in [((), 0), ((0,), 4), ((1,), 0), ((2,), 10 ** 12), ((0, 1), 4), ((0, 1, 3), 11),
                              ((1, 2, 3), 10 ** 12 + 7)]:
            self.assertEqual(price_of(changes, choice), price)
        self.assertEqual(price_of([], ()), 0)


class Mended(unittest.TestCase):
    def test_each_choice(self):
        for kinds, _, _, _, changes in draws(262, 200, 6):
            for choice in model_choices(changes):
                self.assertEqual(mended(kinds, changes, choice), model_mended(kinds, changes, choice))
                self.assertIs(type(mended(kinds, changes, choice)), tuple)

    def test_what_is_no_choice(self):
        kinds = (PLAIN, MARKER, SMALL)
        changes = [(0, ENDER, 1), (1, ENDER, 1), (0, DRAIN, 2), (2, ENDER, 3)]
        self.assertEqual(mended(kinds, changes, (0, 1, 3)), (ENDER, ENDER, ENDER))
        self.assertEqual(mended(kinds, changes, (1, 2)), (DRAIN, ENDER, SMALL))
        wrong = [thing for thing in NOTHINGS if thing != ()] + [
            (0, 2), (0, 1, 2), (1, 0), (3, 1), (0, 0), (1, 1), (4,), (0, 4), (-1,), (-1, 0), (True,), (False,), (0, True),
            (None,), ("0",), [0], [0, 1], [], None, ((0,),), {0: 1}, (0, None), (10 ** 12,), "0", 0, deep(20),
        ]
        for choice in wrong:
            with self.subTest(choice=choice), self.assertRaises(Mismatch):
                mended(kinds, changes, choice)
        for choice in [(0,), (True,), (-1,)]:
            with self.assertRaises(Mismatch):
                mended(kinds, [], choice)
        self.assertEqual(mended(kinds, [], ()), kinds)


class Cheapest(unittest.TestCase):
    def test_no_change_needed(self):
        kinds = (PLAIN, REFUSER)
        for changes in ([], [(0, ENDER, 0)], [(0, REFUSER, 0), (1, PLAIN, 0)]):
            found = cheapest(kinds, None, CLOSER, ("fooled",), changes)
            self.assertEqual(found, ((), 0, closed_list(kinds, None, CLOSER, ("fooled",)), []))

    def test_the_example_at_each_price(self):
        bad = ((0, 1), (6, "close", None, 6, "shut"))
        first = ((),) + bad
        for prices, choice, many in [((4, 4, 1), (2,), 1), ((1, 4, 4), (0,), 1), ((4, 1, 4), (1,), 1), ((0, 0, 0), (0,), 1)]:
            changes = [(place, relay, price) for (place, relay, _), price in zip(EXAMPLE, prices)]
            found = cheapest(KINDS, None, CLOSER, ("spills",), changes)
            self.assertEqual(found[0], choice)
            self.assertEqual(found[1], price_of(changes, choice))
            self.assertEqual(found[3][:1], [first])
            self.assertEqual(len(found[3]), many)

    def test_equal_prices(self):
        kinds = (ENDER, ENDER)
        senders, unwanted = [("marks", "shut")], ("fooled",)
        changes = [(0, PLAIN, 1), (1, PLAIN, 1), (0, REFUSER, 1), (1, REFUSER, 1)]
        choice, price, closed, reasons = cheapest(kinds, None, senders, unwanted, changes)
        self.assertEqual((choice, price), ((0, 1), 2))
        self.assertEqual([told for told, _, _ in reasons], [(), (0,), (1,), (2,), (3,)])
        self.assertEqual(closed, closed_list((PLAIN, PLAIN), None, senders, unwanted))
        self.assertEqual([place for _, place, _ in reasons], [(0,), (1,), (0,), (1,), (0,)])

    def test_price_zero_is_not_free_of_order(self):
        kinds, senders, unwanted = (ENDER,), [("marks", "shut")], ("fooled",)
        changes = [(0, ENDER, 0), (0, PLAIN, 0), (0, REFUSER, 0)]
        choice, price, _, reasons = cheapest(kinds, None, senders, unwanted, changes)
        self.assertEqual((choice, price), ((1,), 0))
        self.assertEqual([told for told, _, _ in reasons], [(), (0,)])

    def test_no_safe_choice(self):
        kinds, senders, unwanted = (ENDER, ENDER), [("marks", "shut")], ("fooled",)
        changes = [(0, PLAIN, 1), (0, REFUSER, 0)]
        choice, price, closed, reasons = cheapest(kinds, None, senders, unwanted, changes)
        self.assertEqual([choice, price, closed], [None, None, None])
        sending = (1, "marks", None, 0, "shut")
        self.assertEqual(reasons, [((), (0,), sending), ((1,), (1,), sending), ((0,), (1,), sending)])
        self.assertEqual(cheapest(kinds, None, senders, unwanted, []), (None, None, None, [((), (0,), sending)]))

    def test_by_chance(self):
        none, changed = 0, 0
        for kinds, links, senders, unwanted, changes in draws(263, 600):
            found = cheapest(kinds, links, senders, unwanted, changes)
            reasons, expected = [], None
            for choice in model_choices(changes):
                others = model_mended(kinds, changes, choice)
                bad = bad_chain(others, links, senders, unwanted)
                if bad is None:
                    closed = closed_list(others, links, senders, unwanted)
                    expected = (choice, sum(changes[at][2] for at in choice), closed, reasons)
                    break
                reasons.append((choice,) + bad)
            expected = expected or (None, None, None, reasons)
            with self.subTest(kinds=kinds, links=links, senders=senders, unwanted=unwanted, changes=changes):
                self.assertEqual(found, expected)
                self.assertIs(type(found), tuple)
                self.assertIs(shows_cheapest(kinds, links, senders, unwanted, changes, found), True)
                if found[0] is not None:
                    self.assertTrue(are_safe(mended(kinds, changes, found[0]), links, senders, unwanted))
            none += found[0] is None
            changed += bool(found[0])
        self.assertGreater(none, 20)
        self.assertGreater(changed, 20)

    def test_new_lists(self):
        first = cheapest(KINDS, None, CLOSER, ("spills",), EXAMPLE)
        first[2].clear()
        first[3].clear()
        again = cheapest(KINDS, None, CLOSER, ("spills",), EXAMPLE)
        self.assertEqual([len(again[2]), len(again[3])], [4, 1])

    def test_bounds_are_those_of_the_mended_kinds(self):
        _, _, closed, _ = cheapest(KINDS, None, CLOSER, ("spills",), EXAMPLE)
        # Without the kind of limit 5 there is no bound but 0.
        self.assertEqual({sending[3] for _, sending in closed}, {0, 1})

    def test_six_kinds_and_six_changes(self):
        chance = random.Random(264)
        begin = time.monotonic()
        for _ in range(10):
            kinds = tuple(random_relay(chance, [None, 0, 3, 7]) for _ in range(6))
            changes = [(place, random_relay(chance, [None, 0, 3, 7, 11]), chance.randrange(3)) for place in range(6)]
            for unwanted in (("fooled",), ("lost",), ("spills",), ("waits",)):
                found = cheapest(kinds, None, CLOSER, unwanted, changes)
                self.assertIs(shows_cheapest(kinds, None, CLOSER, unwanted, changes, found), True)
        # Seconds, not minutes, on any machine.
        self.assertLess(time.monotonic() - begin, 60)


class ShowsCheapest(unittest.TestCase):
    def shows(self, expected, thing, *told):
        told = told or (KINDS, None, CLOSER, ("spills",), EXAMPLE)
        with self.subTest(thing=thing):
            self.assertIs(shows_cheapest(*told, thing), expected)

    def test_another_closed_list(self):
        choice, price, closed, reasons = cheapest(KINDS, None, CLOSER, ("spills",), EXAMPLE)
        others = mended(KINDS, EXAMPLE, choice)
        more = closed + [(0, (0, "close", None, 0, "shut"))]
        self.assertIs(shows_closed(others, None, CLOSER, ("spills",), more), True)
        for right in (closed, closed[::-1], more, more[::-1]):
            self.shows(True, (choice, price, right, reasons))
        for wrong in (closed[1:], closed + closed[:1], tuple(closed), [], None, {}, [None], closed + [None],
                      [(place, (9, "close", None, 9, "shut")) for place, _ in closed]):
            self.shows(False, (choice, price, wrong, reasons))

    def test_other_bad_chains(self):
        choice, price, closed, reasons = cheapest(KINDS, None, CLOSER, ("spills",), EXAMPLE)
        sending = (9, "close", None, 9, "shut")
        for chain, told, expected in [((0, 1), sending, True), ((0, 0, 0, 1), sending, True), ((0,) * 90 + (1, 0, 1), sending, True),
                                      ((1,), sending, False), ((0,), sending, False), ((0, 1), (5, "close", None, 5, "shut"), False),
                                      ((0, 1), (9, "marks", None, 9, "mark"), False), ([0, 1], sending, False),
                                      ((0, 1), None, False), (None, sending, False), ((0, True), sending, False)]:
            self.assertIs(shows_bad(KINDS, None, CLOSER, ("spills",), (chain, told)), expected)
            self.shows(expected, (choice, price, closed, [((), chain, told)]))

    def test_the_bad_chain_is_one_of_the_mended_kinds(self):
        kinds, senders, unwanted = (ENDER, ENDER), [("marks", "shut")], ("fooled",)
        changes = [(0, PLAIN, 1), (1, PLAIN, 2)]
        told = (kinds, None, senders, unwanted, changes)
        choice, price, closed, reasons = cheapest(*told)
        self.assertEqual([one for one, _, _ in reasons], [(), (0,), (1,)])
        self.shows(True, (choice, price, closed, reasons), *told)
        sending = reasons[0][2]
        for chain, expected in [((1,), True), ((0,), False), ((0, 1), True), ((1, 0), True)]:
            other = reasons[:1] + [((0,), chain, sending)] + reasons[2:]
            self.shows(expected, (choice, price, closed, other), *told)

    def test_reasons(self):
        kinds, senders, unwanted = (ENDER, ENDER), [("marks", "shut")], ("fooled",)
        changes = [(0, PLAIN, 1), (1, PLAIN, 1), (0, REFUSER, 1), (1, REFUSER, 1)]
        told = (kinds, None, senders, unwanted, changes)
        choice, price, closed, reasons = cheapest(*told)
        self.shows(True, (choice, price, closed, reasons), *told)
        last = ((0, 1),) + reasons[0][1:]
        for at in range(len(reasons)):
            self.shows(False, (choice, price, closed, reasons[:at] + reasons[at + 1:]), *told)
            self.shows(False, (choice, price, closed, reasons[:at + 1] + reasons[at:]), *told)
            for other in range(at):
                turned = list(reasons)
                turned[at], turned[other] = turned[other], turned[at]
                self.shows(False, (choice, price, closed, turned), *told)
        self.shows(False, (choice, price, closed, reasons + [last]), *told)
        self.shows(False, (choice, price, closed, []), *told)
        self.shows(False, (choice, price, closed, tuple(reasons)), *told)
        for wrong in (None, [], {}, "", 0, [None], [[()]], [list(reasons[0])] + reasons[1:], [reasons[0][:2]] + reasons[1:],
                      [reasons[0] + (0,)] + reasons[1:], reasons[:1] + [((False,),) + reasons[1][1:]] + reasons[2:],
                      reasons[:1] + [([0],) + reasons[1][1:]] + reasons[2:], [([],) + reasons[0][1:]] + reasons[1:],
                      reasons[:2] + [((True,),) + reasons[2][1:]] + reasons[3:]):
            self.shows(False, (choice, price, closed, wrong), *told)

    def test_another_choice_and_another_price(self):
        choice, price, closed, reasons = cheapest(KINDS, None, CLOSER, ("spills",), EXAMPLE)
        self.assertEqual((choice, price), ((2,), 1))
        for wrong in [(0,), (1,), (), (1, 2), [2], (2, 2), None, 2, "2", ((2,),)]:
            self.shows(False, (wrong, price, closed, reasons))
        for wrong in [0, 2, 4, -1, True, None, "1", [1], 1.0, (1,)]:
            self.shows(False, (choice, wrong, closed, reasons))
        # Another choice with all that is right for it, but it is not the cheapest one.
        for wrong in [(0,), (1,), (1, 2), (0, 1)]:
            others = mended(KINDS, EXAMPLE, wrong)
            told = closed_list(others, None, CLOSER, ("spills",))
            self.shows(False, (wrong, price_of(EXAMPLE, wrong), told, reasons))

    def test_bools_for_places(self):
        changes = [(0, PLAIN, 0), (0, PLAIN, 0)]
        told = ((ENDER,), None, [("marks", "shut")], ("fooled",), changes)
        choice, price, closed, reasons = cheapest(*told)
        self.assertEqual((choice, price), ((0,), 0))
        self.shows(True, (choice, price, closed, reasons), *told)
        self.shows(False, ((False,), price, closed, reasons), *told)
        self.shows(False, (choice, False, closed, reasons), *told)

    def test_no_safe_choice(self):
        told = ((ENDER, ENDER), None, [("marks", "shut")], ("fooled",), [(0, PLAIN, 1), (0, REFUSER, 0)])
        found = cheapest(*told)
        choice, price, closed, reasons = found
        self.shows(True, found, *told)
        self.shows(True, (None, None, None, [(one, (1,), (3, "marks", None, 2, "shut")) for one, _, _ in reasons]), *told)
        for wrong in [((), None, None), (None, 0, None), (None, None, []), ((0,), 1, []), ((0,), 1, None), (False, None, None),
                      ((1,), 0, None)]:
            self.shows(False, wrong + (reasons,), *told)
        for wrong in (reasons[:-1], reasons + reasons[-1:], reasons[1:], reasons[::-1], []):
            self.shows(False, (None, None, None, wrong), *told)

    def test_none_where_a_choice_is_safe(self):
        choice, price, closed, reasons = cheapest(KINDS, None, CLOSER, ("spills",), EXAMPLE)
        self.shows(False, (None, None, None, reasons))
        every = [(one,) + reasons[0][1:] for one in choices(KINDS, EXAMPLE)]
        self.shows(False, (None, None, None, every))
        self.shows(False, (choice, price, closed, every))

    def test_objects_of_another_form(self):
        found = cheapest(KINDS, None, CLOSER, ("spills",), EXAMPLE)
        self.shows(True, found)
        for thing in NOTHINGS + [None, (), [], list(found), found[:3], found + (None,), (found,), {0: found}, found[::-1],
                                 (None,) * 4, ((), 0, [], [])]:
            self.shows(False, thing)

    def test_what_is_passed_stays(self):
        found, senders, changes = cheapest(KINDS, None, CLOSER, ("spills",), EXAMPLE), list(CLOSER), list(EXAMPLE)
        wrong = ([(2,)], {"a": [1]}, found[2], found[3])
        before = copy.deepcopy((found, senders, changes, wrong))
        self.assertIs(shows_cheapest(KINDS, None, senders, ("spills",), changes, found), True)
        self.assertIs(shows_cheapest(KINDS, None, senders, ("spills",), changes, wrong), False)
        cheapest(KINDS, None, senders, ("spills",), changes)
        mended(KINDS, changes, (0, 1))
        list(choices(KINDS, changes))
        price_of(changes, (0, 1))
        self.assertEqual((found, senders, changes, wrong), before)


WRONG_CHANGES = [thing for thing in NOTHINGS if thing != []] + [
    None, (), tuple(EXAMPLE), EXAMPLE[0], [EXAMPLE], [None], [list(EXAMPLE[0])], [EXAMPLE[0], 1], [EXAMPLE[0][:2]],
    [EXAMPLE[0] + (0,)], [(2, PLAIN, 1)], [(-1, PLAIN, 1)], [(True, PLAIN, 1)], [(False, PLAIN, 0)], [(None, PLAIN, 1)],
    [("0", PLAIN, 1)], [(0, PLAIN, -1)], [(0, PLAIN, True)], [(0, PLAIN, None)], [(0, PLAIN, "1")], [(0, list(PLAIN), 1)],
    [(0, None, 1)], [(0, PLAIN[:7], 1)], [(0, 1, PLAIN)], [([0], PLAIN, 1)], {0: PLAIN}, [(0, (True,) + PLAIN[1:], 1)],
]


class Errors(unittest.TestCase):
    def calls(self, kinds, links, senders, unwanted, changes):
        return [
            lambda: cheapest(kinds, links, senders, unwanted, changes),
            lambda: shows_cheapest(kinds, links, senders, unwanted, changes, None),
            lambda: shows_cheapest(kinds, links, senders, unwanted, changes, ((), 0, [], [])),
            lambda: list(choices(kinds, changes)),
            lambda: mended(kinds, changes, ()),
            lambda: mended(kinds, changes, None),
        ]

    def refused(self, error, kinds, links, senders, unwanted, changes, told=None):
        for number, call in enumerate(self.calls(kinds, links, senders, unwanted, changes)):
            with self.subTest(number=number, links=links, senders=senders, unwanted=unwanted, changes=changes):
                if number < 3 or error in (NoRelay, NoChange, TooMany) or links is None and kinds in ((), (PLAIN,) * 7):
                    with self.assertRaises(error) as caught:
                        call()
                    self.assertIs(type(caught.exception), error)
                    if error is NoRelay:
                        self.assertEqual(caught.exception.place, told)
                    if error is TooMany:
                        self.assertEqual(caught.exception.limit, 6)

    def test_kinds(self):
        for kinds, place in NO_KINDS:
            self.refused(NoRelay, kinds, None, SENDERS, ("fooled",), [], place)
        for kinds in ((), (PLAIN,) * 7):
            self.refused(Mismatch, kinds, None, SENDERS, ("fooled",), [])

    def test_links_senders_and_unwanted(self):
        for links in WRONG_LINKS:
            self.refused(Mismatch, KINDS, links, SENDERS, ("fooled",), EXAMPLE)
        for senders in WRONG_SENDERS:
            self.refused(NoSender, KINDS, None, senders, ("fooled",), EXAMPLE)
        for unwanted in WRONG_WORDS:
            self.refused(NoWord, KINDS, None, SENDERS, unwanted, EXAMPLE)

    def test_changes(self):
        for changes in WRONG_CHANGES:
            self.refused(NoChange, KINDS, None, SENDERS, ("fooled",), changes)

    def test_seven_changes(self):
        for changes in ([(0, PLAIN, 1)] * 7, EXAMPLE * 3, EXAMPLE * 100):
            self.refused(TooMany, KINDS, None, SENDERS, ("fooled",), changes)
        self.refused(NoChange, KINDS, None, SENDERS, ("fooled",), [(0, PLAIN, 1)] * 7 + [None])
        self.assertEqual(len(list(choices(KINDS, [(0, PLAIN, 1)] * 6))), 7)

    def test_of_two_wrong_things_the_first_one_counts(self):
        self.refused(NoRelay, [PLAIN], [], (), [], None, -1)
        self.refused(NoRelay, (PLAIN, 7), None, SENDERS, (), None, 1)
        self.refused(Mismatch, (), None, (), [], None)
        self.refused(Mismatch, (PLAIN,) * 7, None, SENDERS, (), None)
        self.refused(Mismatch, KINDS, [], (), [], None)
        self.refused(NoSender, KINDS, None, (), [], None)
        self.refused(NoWord, KINDS, None, [], [], None)
        self.refused(NoWord, KINDS, None, [], ("x",), EXAMPLE * 3)
        with self.assertRaises(NoChange):
            mended(KINDS, [None], None)
        with self.assertRaises(TooMany):
            mended(KINDS, EXAMPLE * 3, None)

    def test_places_beyond_the_kinds(self):
        for many in range(1, 7):
            kinds = (PLAIN,) * many
            self.assertEqual(len(list(choices(kinds, [(many - 1, PLAIN, 1)]))), 2)
            self.refused(NoChange, kinds, None, [], (), [(many, PLAIN, 1)])


class AgainstSlowSearches(unittest.TestCase):
    def test_the_cheapest_choice_has_no_short_bad_chain(self):
        for kinds, links, senders, unwanted, changes in draws(265, 60):
            choice, _, _, reasons = cheapest(kinds, links, senders, unwanted, changes)
            for one, chain, sending in reasons:
                others = model_mended(kinds, changes, one)
                told = model_run([others[place] for place in chain], sending)[1]
                self.assertTrue(any(word in unwanted for _, word in told))
                self.assertIn(sending, sendings_of(others, senders))
            if choice is not None:
                others = model_mended(kinds, changes, choice)
                for chain in all_chains(others, links, 2):
                    for sending in sendings_of(others, senders):
                        told = model_run([others[place] for place in chain], sending)[1]
                        self.assertFalse(any(word in unwanted for _, word in told))


if __name__ == "__main__":
    unittest.main()
