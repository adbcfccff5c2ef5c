"""Point 13: what shows that kinds are bad, and what shows that they are safe."""

import copy
import itertools
import random
import unittest

from cases import (
    CLOSER, ENDER, MARKER, NO_KINDS, REFUSER, SENDERS, SMALL, WORDS, WRONG_LINKS, WRONG_SENDERS, WRONG_WORDS, all_chains,
    draws, is_closed, sendings_of,
)
from cutrelays.errors import Mismatch, NoRelay, NoSender, NoWord
from cutrelays.judges import shows_bad, shows_closed
from cutrelays.safety import bad_chain, closed_list, occurring
from cutrelays.standings import bounds_of, standings
from tools import NOTHINGS, PLAIN, deep, model_run, model_sent, model_standing, relay_of

LARGE = 10 ** 12
CLOSED = (6, "close", None, 6, "shut")


def is_bad(kinds, links, senders, unwanted, places, sending):
    """Return the same as shows_bad for a tuple of places and a small sending, from slow searches."""
    if places not in all_chains(kinds, links, len(places)) or sending not in model_sent(senders, sending[0]):
        return False
    return any(word in unwanted for _, word in model_run([kinds[place] for place in places], sending)[1])


class ShowsBad(unittest.TestCase):
    def shows(self, expected, kinds, links, senders, unwanted, thing):
        with self.subTest(kinds=kinds, links=links, senders=senders, unwanted=unwanted, thing=thing):
            self.assertIs(shows_bad(kinds, links, senders, unwanted, thing), expected)

    def test_what_bad_chain_tells(self):
        many = 0
        for kinds, links, senders, unwanted in draws(231, 400):
            found = bad_chain(kinds, links, senders, unwanted)
            self.shows(found is not None, kinds, links, senders, unwanted, found)
            many += found is not None
        self.assertGreater(many, 100)

    def test_all_short_chains_and_small_sendings(self):
        chance, bad = random.Random(232), 0
        for kinds, links, senders, unwanted in draws(233, 60, most=2):
            others = sendings_of(kinds, SENDERS)
            for places in [()] + all_chains(kinds, None, 3):
                for sending in chance.sample(others, 12) + chance.choices(sendings_of(kinds, senders) or others, k=6):
                    expected = is_bad(kinds, links, senders, unwanted, places, sending)
                    self.shows(expected, kinds, links, senders, unwanted, (places, sending))
                    bad += expected
        self.assertGreater(bad, 500)

    def test_a_trouble_at_the_reader_and_at_the_last_relay(self):
        cut = (3, "length", 3, 1, "shut")
        self.shows(True, (ENDER,), None, [("length", "shut")], ("fooled",), ((0,), cut))
        self.shows(False, (PLAIN,), None, [("length", "shut")], ("fooled",), ((0,), cut))
        self.shows(True, (SMALL,), None, [("length", "none")], ("lost",), ((0,), (6, "length", 6, 6, "open")))
        self.shows(False, (SMALL,), None, [("length", "none")], ("waits", "fooled"), ((0,), (6, "length", 6, 6, "open")))

    def test_a_trouble_amid_the_chain(self):
        kinds = (relay_of(hold=0, wait="cut"), PLAIN, REFUSER)
        waits = (2, "marks", None, 1, "open")
        self.shows(True, kinds, None, [("marks", "open")], ("waits",), ((1, 0, 2), waits))
        self.shows(False, kinds, None, [("marks", "open")], ("waits",), ((0, 1, 2), waits))
        self.shows(False, kinds, None, [("marks", "open")], ("waits",), ((2, 1, 1), waits))

    def test_chains_of_any_number_of_places(self):
        kinds = (MARKER, SMALL)
        for many in (2, 3, 50, 119, 1000):
            self.shows(True, kinds, None, CLOSER, ("spills",), ((0,) * many + (1,), CLOSED))
            self.shows(False, kinds, None, CLOSER, ("spills",), ((0,) * many, CLOSED))
            self.shows(True, kinds, None, CLOSER, ("spills",), ((0, 1) + (0, 1) * many, CLOSED))
            self.shows(False, kinds, None, CLOSER, ("spills",), ((1,) + (0, 1) * many, CLOSED))
            self.shows(True, kinds, ((-1, 0), (0, 0), (0, 1)), CLOSER, ("spills",), ((0,) * many + (1,), CLOSED))
            self.shows(False, kinds, ((-1, 0), (0, 1)), CLOSER, ("spills",), ((0,) * many + (1,), CLOSED))
        self.shows(True, kinds, None, CLOSER, ("lost",), ((0,) * 119 + (1,), (LARGE, "close", None, LARGE, "shut")))

    def test_chains_that_links_do_not_let_be(self):
        kinds, thing = (MARKER, SMALL), ((0, 1), CLOSED)
        self.shows(True, kinds, ((-1, 0), (0, 1)), CLOSER, ("spills",), thing)
        for links in ((), ((0, 1),), ((-1, 0),), ((-1, 1), (0, 1)), ((-1, 0), (1, 0)), ((-1, 0), (0, 0), (1, 1))):
            self.shows(False, kinds, links, CLOSER, ("spills",), thing)

    def test_what_is_no_chain(self):
        kinds = (MARKER, SMALL)
        for places in [(), (0, 2), (-1, 1), (0, True), (False, 1), (0, "1"), (0, None), [0, 1], (0, [1]), "01", 0, None,
                       {0: 0, 1: 1}, ((0, 1),), (0, 1, -1), (0, 1, LARGE), deep(20)]:
            self.shows(False, kinds, None, CLOSER, ("spills",), (places, CLOSED))
        for links in (None, ()):
            self.shows(False, (relay_of(limit=0, rest="leave"),), links, SENDERS, ("fooled",), ((), CLOSED))

    def test_what_no_sender_of_the_list_sends(self):
        kinds, places = (MARKER, SMALL), (0, 1)
        sendings = [
            (6, "close", None, 5, "shut"), (6, "close", None, 7, "shut"), (6, "close", None, 6, "open"),
            (6, "length", 6, 6, "open"), (6, "marks", None, 6, "mark"), (6, "length", 6, 6, "shut"),
            (6, "length", 7, 7, "open"), (6, "length", 7, 6, "shut"),
        ]
        for sending in sendings:
            self.shows(False, kinds, None, CLOSER, ("spills", "lost", "waits", "fooled"), (places, sending))
        self.shows(False, kinds, None, [], ("spills",), (places, CLOSED))
        relay = (relay_of(wait="wait"),)
        self.shows(True, relay, None, [("length", "open")], ("waits",), ((0,), (9, "length", 9, 8, "open")))
        for sending in [(9, "length", 9, 9, "open"), (9, "length", 10, 8, "open"), (9, "length", 9, 8, "shut")]:
            self.shows(False, relay, None, [("length", "open")], ("waits",), ((0,), sending))

    def test_large_sendings(self):
        relay = (relay_of(limit=10 ** 9, rest="leave"),)
        for units in (10 ** 9 + 1, LARGE):
            self.shows(True, relay, None, [("marks", "none")], ("spills",), ((0,), (units, "marks", None, units, "mark")))
        self.shows(False, relay, None, [("marks", "none")], ("spills",), ((0,), (10 ** 9, "marks", None, 10 ** 9, "mark")))

    def test_objects_of_another_form(self):
        kinds = (MARKER, SMALL)
        things = NOTHINGS + [
            None, (), [], [(0, 1), CLOSED], ((0, 1),), ((0, 1), CLOSED, 0), (CLOSED, (0, 1)), {(0, 1): CLOSED},
            ((0, 1), list(CLOSED)), ((0, 1), None), ((0, 1), CLOSED[:4]), ((0, 1), CLOSED + (0,)), ((0, 1), "close"),
            ((0, 1), (6, "close", 6, 6, "shut")), ((0, 1), (6.0, "close", None, 6, "shut")), (((0, 1), CLOSED),),
            ((0,), (True, "close", None, 1, "shut")), ((0,), (1, "close", None, True, "shut")),
        ]
        for thing in things:
            self.shows(False, kinds, None, SENDERS, ("spills", "lost", "waits", "fooled"), thing)
        self.shows(True, kinds, None, SENDERS, ("spills",), ((0, 1), CLOSED))

    def test_no_unwanted_words(self):
        for sending in ((0, 1), CLOSED), ((0,), CLOSED):
            self.shows(False, (MARKER, SMALL), None, SENDERS, (), sending)

    def test_what_is_passed_stays(self):
        senders, thing = list(CLOSER), ([0, [1]], {"a": [CLOSED]})
        before = copy.deepcopy((senders, thing))
        shows_bad((MARKER, SMALL), None, senders, ("spills",), thing)
        shows_bad((MARKER, SMALL), None, senders, ("spills",), ((0, 1), CLOSED))
        self.assertEqual((senders, thing), before)


class ShowsClosed(unittest.TestCase):
    def shows(self, expected, kinds, links, senders, unwanted, thing):
        with self.subTest(kinds=kinds, links=links, senders=senders, unwanted=unwanted, thing=thing):
            self.assertIs(shows_closed(kinds, links, senders, unwanted, thing), expected)

    def test_what_closed_list_tells_in_any_order(self):
        chance, safe = random.Random(234), 0
        for kinds, links, senders, unwanted in draws(235, 300):
            found = closed_list(kinds, links, senders, unwanted)
            if found is None:
                self.shows(False, kinds, links, senders, unwanted, occurring(kinds, links, senders))
            else:
                safe += 1
                self.shows(True, kinds, links, senders, unwanted, found)
                self.shows(True, kinds, links, senders, unwanted, found[::-1])
                self.shows(True, kinds, links, senders, unwanted, chance.sample(found, len(found)))
        self.assertGreater(safe, 50)

    def test_one_less_and_one_twice(self):
        many = 0
        for kinds, links, senders, unwanted in draws(236, 150):
            found = closed_list(kinds, links, senders, unwanted) or []
            for at in range(0, len(found), 1 + len(found) // 6):
                many += 1
                self.shows(False, kinds, links, senders, unwanted, found[:at] + found[at + 1:])
                self.shows(False, kinds, links, senders, unwanted, found + [found[at]])
                self.shows(False, kinds, links, senders, unwanted, found[:at] + [found[at]] + found[at:])
        self.assertGreater(many, 100)

    def test_more_than_occurs(self):
        chance, told = random.Random(237), {True: 0, False: 0}
        for kinds, links, senders, unwanted in draws(238, 200, most=2):
            found = closed_list(kinds, links, senders, unwanted)
            pairs = list(itertools.product(range(len(kinds)), standings(bounds_of(kinds))))
            others = [pair for pair in pairs if found is not None and pair not in found]
            for many in (1, 1, 2, 5):
                if len(others) >= many:
                    thing = found + chance.sample(others, many)
                    expected = is_closed(kinds, links, senders, unwanted, thing)
                    self.shows(expected, kinds, links, senders, unwanted, thing)
                    told[expected] += 1
        self.assertGreater(min(told.values()), 50)

    def test_all_standings(self):
        kinds = (REFUSER, relay_of(hold=2))
        pairs = list(itertools.product((0, 1), standings([0, 2])))
        self.shows(True, kinds, None, SENDERS, (), pairs)
        self.shows(True, kinds, None, [], (), pairs)
        self.shows(False, kinds, None, SENDERS, ("waits",), pairs)
        self.shows(False, kinds, None, SENDERS, (), pairs[1:])

    def test_a_trouble_of_the_reader_alone(self):
        # No relay follows, so the standing in the list meets nobody but the reader.
        waits, fooled = (0, (1, "marks", None, 0, "open")), (0, (1, "length", 0, 0, "open"))
        for links in ((), ((-1, 0),)):
            for pair, word in ((waits, "waits"), (fooled, "fooled")):
                base = occurring((PLAIN,), links, CLOSER)
                self.shows(False, (PLAIN,), links, CLOSER, (word,), base + [pair])
                for other in set(WORDS) - {word}:
                    self.shows(True, (PLAIN,), links, CLOSER, (other,), base + [pair])

    def test_a_trouble_of_a_relay_that_follows_alone(self):
        pair = (0, (6, "marks", None, 6, "mark"))
        kinds = (MARKER, SMALL)
        self.shows(True, kinds, (), CLOSER, ("spills",), [pair])
        self.shows(True, kinds, ((1, 1), (1, 0)), CLOSER, ("spills",), [pair])
        self.shows(True, kinds, ((0, 0),), CLOSER, ("spills",), [pair])
        self.shows(False, kinds, ((0, 1),), CLOSER, ("spills",), [pair])

    def test_a_pair_that_leads_out_of_the_list(self):
        pair = (0, (1, "close", None, 1, "shut"))
        self.shows(True, (MARKER,), (), [], (), [pair])
        self.shows(False, (MARKER,), ((0, 0),), [], (), [pair])
        self.shows(True, (MARKER,), ((-1, 0),), [], (), [])
        marked = (0, (1, "marks", None, 1, "mark"))
        self.shows(True, (MARKER,), ((0, 0),), [], (), [marked])
        self.shows(True, (MARKER,), ((0, 0),), [], (), [(0, (1, "close", None, 1, "shut")), marked])

    def test_the_same_standing_at_another_place(self):
        kinds, links = (MARKER, MARKER), ((-1, 0),)
        found = occurring(kinds, links, CLOSER)
        self.shows(True, kinds, links, CLOSER, (), found)
        self.shows(False, kinds, links, CLOSER, (), [(1, sending) for _, sending in found])

    def test_the_empty_list(self):
        for kinds in ((PLAIN,), (MARKER, SMALL)):
            self.shows(True, kinds, (), SENDERS, ("fooled",), [])
            self.shows(True, kinds, None, [], tuple(WORDS), [])
            self.shows(True, kinds, ((0, 0),), SENDERS, tuple(WORDS), [])
            self.shows(False, kinds, None, SENDERS, (), [])
        self.shows(True, (REFUSER,), None, [("length", "open"), ("marks", "shut")], ("fooled", "lost"), [])

    def test_objects_of_another_form(self):
        kinds, pair = (PLAIN, REFUSER), (1, (1, "length", 1, 1, "open"))
        self.shows(True, kinds, (), CLOSER, (), [pair])
        wrong = [
            [1, pair[1]], (1,), pair + (0,), pair[1], (2, pair[1]), (-1, pair[1]), (True, pair[1]), (None, pair[1]),
            ("1", pair[1]), (1, list(pair[1])), (1, None), (1, pair[1][:4]), (1, (True, "length", 1, 1, "open")),
            (1, (1, "length", True, 1, "open")), (1, (1, "length", 1, True, "open")), (1, (2, "length", 2, 2, "open")),
            (1, (1, "length", 2, 0, "open")[::-1]), (1, (3, "length", 3, 3, "open")), ([1], pair[1]), (1, {}), (pair, pair),
            (1, (5, "length", 3, 1, "shut")), None, 1, "a", deep(20),
        ]
        for thing in wrong:
            self.shows(False, kinds, (), CLOSER, (), [thing])
            self.shows(False, kinds, (), CLOSER, (), [pair, thing])
        for thing in [thing for thing in NOTHINGS if thing != []] + [None, (), (pair,), {pair: True}, pair, [[pair]]]:
            self.shows(False, kinds, (), CLOSER, (), thing)

    def test_standings_at_the_bounds_of_all_kinds(self):
        kinds = (relay_of(hold=4), relay_of(limit=9))
        for value in range(14):
            pair = (0, (value, "length", value, value, "open"))
            self.shows(value in (0, 1, 4, 5, 9, 10), kinds, (), [], (), [pair])

    def test_what_is_passed_stays(self):
        senders = list(CLOSER)
        thing = closed_list((MARKER,), None, senders, ())[::-1]
        wrong = [[0, thing], {"a": thing}]
        before = copy.deepcopy((senders, thing, wrong))
        self.assertIs(shows_closed((MARKER,), None, senders, (), thing), True)
        self.assertIs(shows_closed((MARKER,), None, senders, (), wrong), False)
        self.assertEqual((senders, thing, wrong), before)


class Errors(unittest.TestCase):
    KINDS = (MARKER, SMALL)

    def refused(self, error, kinds, links, senders, unwanted, place=None):
        for call in (shows_bad, shows_closed):
            for thing in (None, [], ((0, 1), CLOSED), {"a": [1]}):
                with self.subTest(call=call, links=links, senders=senders, unwanted=unwanted):
                    with self.assertRaises(error) as caught:
                        call(kinds, links, senders, unwanted, thing)
                    self.assertIs(type(caught.exception), error)
                    if place is not None:
                        self.assertEqual(caught.exception.place, place)

    def test_kinds(self):
        for kinds, place in NO_KINDS:
            self.refused(NoRelay, kinds, None, SENDERS, ("fooled",), place)
        for kinds in ((), (PLAIN,) * 7):
            self.refused(Mismatch, kinds, None, SENDERS, ("fooled",))

    def test_links(self):
        for links in WRONG_LINKS:
            self.refused(Mismatch, self.KINDS, links, SENDERS, ("fooled",))

    def test_senders(self):
        for senders in WRONG_SENDERS:
            self.refused(NoSender, self.KINDS, None, senders, ("fooled",))

    def test_unwanted(self):
        for unwanted in WRONG_WORDS:
            self.refused(NoWord, self.KINDS, None, SENDERS, unwanted)

    def test_of_two_wrong_things_the_first_one_counts(self):
        self.refused(NoRelay, [PLAIN], [], (), [], -1)
        self.refused(NoRelay, (PLAIN, 7), ((0, 5),), (), [], 1)
        self.refused(NoRelay, (PLAIN,) * 7 + (None,), [], (), [], 7)
        self.refused(Mismatch, (), None, (), [])
        self.refused(Mismatch, (PLAIN,) * 7, None, (), None)
        self.refused(Mismatch, self.KINDS, [], (), [])
        self.refused(Mismatch, self.KINDS, ((0, 0), (0, 0)), SENDERS, None)
        self.refused(NoSender, self.KINDS, None, (), [])
        self.refused(NoSender, self.KINDS, (), [None], ("x",))

    def test_kinds_that_are_right(self):
        for many in range(1, 7):
            self.assertIs(shows_closed((PLAIN,) * many, (), [], (), []), True)
            self.assertIs(shows_bad((SMALL,) * many, None, CLOSER, ("lost",), ((many - 1,), CLOSED)), True)


class StandingsOfSendings(unittest.TestCase):
    def test_a_bad_sending_has_a_bad_standing(self):
        # What is bad with a sending is bad with its standing, and the other way round.
        for kinds, links, senders, unwanted in draws(239, 60, most=2):
            for places in all_chains(kinds, links, 2):
                for sending in sendings_of(kinds, senders)[::3]:
                    down = model_standing(sending, bounds_of(kinds))
                    self.assertIs(shows_bad(kinds, links, senders, unwanted, (places, sending)),
                                  shows_bad(kinds, links, senders, unwanted, (places, down)))


if __name__ == "__main__":
    unittest.main()
