"""Point 13: what occurs behind chains of kinds, bad chains, safe kinds and closed lists."""

import copy
import itertools
import random
import time
import unittest

from cases import (
    CLOSER, ENDER, MARKER, NO_KINDS, REFUSER, SENDERS, SMALL, WORDS, WRONG_LINKS, WRONG_SENDERS, WRONG_WORDS, all_chains,
    all_links, draws, is_closed, sendings_of, slow_bad,
)
from cutrelays.errors import Mismatch, NoRelay, NoSender, NoWord
from cutrelays.safety import are_safe, bad_chain, closed_list, occurring, reason
from cutrelays.standings import bounds_of, standings
from tools import (
    NOTHINGS, PLAIN, model_relayed, model_run, model_sent, model_standing, model_troubles, order, random_relay, relay_of,
)


def slow_reasons(kinds, links, senders, longest):
    """Return a dict of the pairs that occur behind chains that are not longer, with their reasons."""
    bounds, found = bounds_of(kinds), {}
    sendings = sendings_of(kinds, senders)
    for places in all_chains(kinds, links, longest):
        chain = tuple(kinds[place] for place in places)
        for sending in sendings:
            out = model_run(chain, sending)[0][-1]
            if out is not None:
                found.setdefault((places[-1], model_standing(out, bounds)), (places, sending))
    return found


def slow_occurring(kinds, links, senders):
    """Return the pairs that occur and the words of all troubles, by following sendings themselves to the end."""
    links = all_links(kinds) if links is None else links
    words, found = set(), set()
    layer = {(-1, sending) for sending in sendings_of(kinds, senders)}
    while layer:
        reached = set()
        for (ahead, sending), place in itertools.product(layer, range(len(kinds))):
            if (ahead, place) in links:
                out, told = model_relayed(kinds[place], sending)
                words.update(told)
                if out is not None:
                    words.update(model_troubles(out))
                    reached.add((place, out))
        layer = reached - found
        found |= layer
    pairs = {(place, model_standing(out, bounds_of(kinds))) for place, out in found}
    return (sorted(pairs, key=lambda pair: (pair[0], order(pair[1]))), words)


class Occurring(unittest.TestCase):
    def test_by_hand(self):
        self.assertEqual(occurring((PLAIN,), None, CLOSER),
                         [(0, (0, "length", 0, 0, "open")), (0, (1, "length", 1, 1, "open"))])
        self.assertEqual(occurring((MARKER, ENDER), ((-1, 1), (1, 0)), [("marks", "shut")]),
                         [(0, (1, "marks", None, 0, "mark")), (0, (2, "marks", None, 1, "mark")),
                          (1, (1, "length", 0, 0, "open")), (1, (2, "length", 1, 1, "open"))])

    def test_no_links_and_no_senders(self):
        for kinds in ((PLAIN,), (MARKER, SMALL)):
            self.assertEqual(occurring(kinds, (), SENDERS), [])
            self.assertEqual(occurring(kinds, None, []), [])
            self.assertEqual(occurring(kinds, (), []), [])
            self.assertEqual(occurring(kinds, ((0, 0),), SENDERS), [])

    def test_what_is_not_sent_on_does_not_occur(self):
        self.assertEqual(occurring((REFUSER,), None, [("length", "shut"), ("marks", "open")]), [])
        self.assertEqual(occurring((relay_of(limit=0),), None, CLOSER), [(0, (0, "length", 0, 0, "open"))])

    def test_standings_are_those_at_the_bounds_of_all_kinds(self):
        self.assertEqual(occurring((PLAIN, SMALL), ((-1, 0),), CLOSER),
                         [(0, (0, "length", 0, 0, "open")), (0, (1, "length", 1, 1, "open")),
                          (0, (5, "length", 5, 5, "open")), (0, (6, "length", 6, 6, "open"))])

    def test_by_chance(self):
        for kinds, links, senders, _ in draws(131, 150):
            with self.subTest(kinds=kinds, links=links, senders=senders):
                self.assertEqual(occurring(kinds, links, senders), slow_occurring(kinds, links, senders)[0])

    def test_a_new_list(self):
        occurring((PLAIN,), None, CLOSER).clear()
        self.assertEqual(len(occurring((PLAIN,), None, CLOSER)), 2)
        self.assertIs(type(occurring((PLAIN,), None, CLOSER)), list)


class Reasons(unittest.TestCase):
    def test_by_hand(self):
        kinds = (MARKER, SMALL)
        self.assertEqual(reason(kinds, None, CLOSER, (0, (5, "marks", None, 5, "mark"))),
                         ((0,), (5, "close", None, 5, "shut")))
        self.assertEqual(reason(kinds, ((-1, 1), (1, 0)), CLOSER, (0, (5, "marks", None, 5, "mark"))),
                         ((1, 0), (5, "close", None, 5, "shut")))
        self.assertEqual(reason(kinds, ((-1, 1), (1, 0)), CLOSER, (0, (6, "marks", None, 6, "mark"))), None)

    def test_the_least_of_the_shortest_chains(self):
        ended = (0, (1, "length", 0, 0, "open"))
        kinds = (PLAIN, REFUSER, ENDER, ENDER)
        self.assertEqual(reason(kinds, None, [("marks", "shut")], (2,) + ended[1:]), ((2,), (1, "marks", None, 0, "shut")))
        self.assertEqual(reason(kinds, None, [("marks", "shut")], (3,) + ended[1:]), ((3,), (1, "marks", None, 0, "shut")))
        self.assertEqual(reason(kinds, None, [("marks", "shut")], ended), ((2, 0), (1, "marks", None, 0, "shut")))
        links = ((-1, 3), (-1, 2), (3, 0), (0, 1))
        self.assertEqual(reason(kinds, links, [("marks", "shut")], ended), ((3, 0), (1, "marks", None, 0, "shut")))
        self.assertEqual(reason(kinds, links, [("marks", "shut")], (1,) + ended[1:]),
                         ((3, 0, 1), (1, "marks", None, 0, "shut")))

    def test_the_least_sending(self):
        trimmer = relay_of(hold=2, over="trim", whole="close")
        thing = (0, (3, "close", None, 2, "shut"))
        some = [("length", "none"), ("marks", "none")]
        self.assertEqual(reason((trimmer,), None, some, thing), ((0,), (3, "length", 3, 3, "open")))
        self.assertEqual(reason((trimmer,), None, some[1:], thing), ((0,), (3, "marks", None, 3, "mark")))
        kinds, thing = (relay_of(hold=0, over="trim", limit=7),), (0, (8, "length", 0, 0, "open"))
        self.assertEqual(reason(kinds, None, [("marks", "shut")], thing), ((0,), (8, "marks", None, 1, "shut")))

    def test_by_chance(self):
        for kinds, links, senders, _ in draws(132, 60):
            slow, longest = slow_reasons(kinds, links, senders, 3), 3
            pairs = occurring(kinds, links, senders)
            for thing in pairs[::1 + len(pairs) // 20]:
                found = reason(kinds, links, senders, thing)
                with self.subTest(kinds=kinds, links=links, senders=senders, thing=thing):
                    if thing in slow:
                        self.assertEqual(found, slow[thing])
                    else:
                        self.assertGreater(len(found[0]), longest)
                        self.assertIn(found[0], all_chains(kinds, links, len(found[0])))
                        self.assertIn(found[1], sendings_of(kinds, senders))
                        out = model_run([kinds[place] for place in found[0]], found[1])[0][-1]
                        self.assertEqual((found[0][-1], model_standing(out, bounds_of(kinds))), thing)

    def test_pairs_that_do_not_occur(self):
        kinds, links, senders = (MARKER, SMALL), ((-1, 0), (0, 0)), CLOSER
        pairs = occurring(kinds, links, senders)
        for place in range(-1, 3):
            for sending in standings([0, 5]):
                found = reason(kinds, links, senders, (place, sending))
                self.assertIs(found is not None, (place, sending) in pairs)

    def test_things_that_are_no_pairs(self):
        kinds = (PLAIN, PLAIN)
        one = (1, "length", 1, 1, "open")
        self.assertIsNotNone(reason(kinds, None, CLOSER, (1, one)))
        things = NOTHINGS + [
            None, [1, one], (1, list(one)), (1, one, 1), (1,), one, (True, one), (one, 1), ("1", one), (None, one),
            ([1], one), (1, [one]), (1, {}), (1, None), (1, (True, "length", 1, 1, "open")), (1, (one,)), ((1, one),),
            (1, (1, "length", True, 1, "open")), (1, (9, "length", 9, 9, "open")), (1, (1, "length", 1, 1)), {1: one},
            (2, one), (-1, one), (-2, one),
        ]
        for thing in things:
            with self.subTest(thing=thing):
                self.assertIsNone(reason(kinds, None, CLOSER, thing))


class BadChains(unittest.TestCase):
    def bad(self, expected, kinds, links, senders, *unwanted):
        with self.subTest(kinds=kinds, links=links, senders=senders, unwanted=unwanted):
            self.assertEqual(bad_chain(kinds, links, senders, unwanted), expected)
            self.assertIs(are_safe(kinds, links, senders, unwanted), expected is None)
            self.assertIs(closed_list(kinds, links, senders, unwanted) is None, expected is not None)

    def test_one_place(self):
        self.bad(((0,), (1, "length", 1, 0, "shut")), (ENDER,), None, [("length", "shut")], "fooled")
        self.bad(((0,), (1, "marks", None, 0, "open")), (PLAIN,), None, [("marks", "open")], "waits")
        self.bad(((0,), (6, "length", 6, 6, "open")), (SMALL,), None, [("length", "none")], "spills")
        self.bad(((0,), (6, "length", 6, 6, "open")), (SMALL,), None, [("length", "none")], "lost")
        self.bad(((1,), (1, "marks", None, 0, "shut")), (REFUSER, ENDER), None, [("marks", "shut")], "fooled")

    def test_a_trouble_at_the_reader_alone(self):
        streamer = relay_of(hold=0, stream="marks", wait="cut")
        self.bad(None, (streamer,), None, [("length", "open")], "waits")
        self.bad(None, (streamer,), None, [("length", "open")], "fooled")
        closer = relay_of(stream="close", wait="cut")
        self.bad(((0,), (1, "length", 1, 0, "open")), (closer,), None, [("length", "open")], "fooled")

    def test_several_places(self):
        self.bad(((0, 1), (6, "close", None, 6, "shut")), (MARKER, SMALL), None, CLOSER, "spills")
        kinds, links = (MARKER, SMALL, PLAIN), ((-1, 0), (0, 2), (2, 1))
        self.bad(((0, 2, 1), (6, "close", None, 6, "shut")), kinds, links, CLOSER, "spills")
        closer = relay_of(whole="close")
        kinds, path = (closer, closer, MARKER, SMALL), ((-1, 0), (0, 1), (1, 2), (2, 3))
        self.bad(((0, 1, 2, 3), (6, "close", None, 6, "shut")), kinds, path, CLOSER, "spills")
        self.bad(((0, 2, 3), (6, "close", None, 6, "shut")), kinds, path + ((0, 2),), CLOSER, "spills")
        self.bad(None, kinds, path[:3], CLOSER, "spills")

    def test_a_sending_that_the_reader_of_no_relay_would_read_is_no_chain(self):
        self.bad(None, (REFUSER,), None, [("length", "open"), ("length", "shut")], "waits", "fooled")

    def test_no_links_no_senders_no_words(self):
        for kinds in ((ENDER,), (ENDER, SMALL, MARKER)):
            self.bad(None, kinds, (), SENDERS, *WORDS)
            self.bad(None, kinds, ((0, 0),), SENDERS, *WORDS)
            self.bad(None, kinds, None, [], *WORDS)
            self.bad(None, kinds, None, SENDERS)

    def test_links_that_keep_kinds_apart(self):
        kinds = (MARKER, SMALL)
        self.bad(((0, 1), (6, "close", None, 6, "shut")), kinds, ((-1, 0), (0, 1)), CLOSER, "spills")
        for links in (((-1, 0),), ((-1, 0), (1, 0), (-1, 1)), ((0, 1), (-1, 1)), ((0, 1),),
                      ((0, 1), (1, 0), (0, 0), (1, 1))):
            self.bad(None, kinds, links, CLOSER, "spills")

    def test_a_shorter_chain_ahead_of_a_lesser_one(self):
        kinds, links = (MARKER, SMALL, SMALL), ((-1, 0), (0, 1), (-1, 2))
        self.bad(((0, 1), (6, "close", None, 6, "shut")), kinds, links, CLOSER, "spills")
        self.bad(((2,), (6, "marks", None, 6, "mark")), kinds, links, CLOSER + [("marks", "none")], "spills")
        self.bad(((1,), (6, "length", 6, 6, "open")), kinds, None, CLOSER + [("length", "none")], "spills")

    def test_a_lesser_chain_ahead_of_a_lesser_sending(self):
        kinds = (relay_of(limit=9, rest="leave"), relay_of(limit=2, rest="leave"))
        self.bad(((0,), (10, "length", 10, 10, "open")), kinds, None, [("length", "none")], "spills")
        self.bad(((0,), (3, "length", 3, 3, "open")), kinds[::-1], None, [("length", "none")], "spills")
        kinds = (MARKER, relay_of(limit=3, rest="leave"), relay_of(limit=1, rest="leave"))
        self.bad(((0, 1), (4, "close", None, 4, "shut")), kinds, None, CLOSER, "spills")
        self.bad(((0, 2), (2, "close", None, 2, "shut")), kinds, ((-1, 0), (0, 2)), CLOSER, "spills")

    def test_the_least_sending(self):
        self.bad(((0,), (1, "length", 1, 0, "open")), (PLAIN,), None, SENDERS, "waits")
        self.bad(((0,), (1, "marks", None, 0, "open")), (PLAIN,), None, SENDERS[::-1][:5], "waits")
        self.bad(((0,), (6, "length", 6, 1, "open")), (SMALL,), None, [("length", "none"), ("length", "open")], "spills")

    def test_equal_kinds(self):
        self.bad(((0, 1), (6, "close", None, 6, "shut")), (MARKER, SMALL, MARKER, SMALL), None, CLOSER, "spills")
        links = ((-1, 2), (2, 0), (0, 3), (0, 1))
        self.bad(((2, 0, 1), (6, "close", None, 6, "shut")), (MARKER, SMALL, MARKER, SMALL), links, CLOSER, "spills")

    def test_each_unwanted_word_alone_and_all(self):
        relay = relay_of(limit=5, rest="leave")
        self.bad(((0,), (6, "marks", None, 6, "mark")), (relay,), None, [("marks", "none")], "spills")
        self.bad(((0,), (6, "marks", None, 6, "mark")), (relay,), None, [("marks", "none")], "lost")
        self.bad(None, (relay,), None, [("marks", "none")], "waits", "fooled")
        self.bad(((0,), (1, "marks", None, 0, "open")), (relay,), None, [("marks", "open")], *WORDS)

    def test_by_chance(self):
        lengths = set()
        for kinds, links, senders, unwanted in draws(133, 500):
            found = bad_chain(kinds, links, senders, unwanted)
            slow = slow_bad(kinds, links, senders, unwanted, 3)
            with self.subTest(kinds=kinds, links=links, senders=senders, unwanted=unwanted):
                if slow is None and found is not None:
                    self.assertGreater(len(found[0]), 3)
                    slow = slow_bad(kinds, links, senders, unwanted, len(found[0]))
                self.bad(slow, kinds, links, senders, *unwanted)
            lengths.add(0 if found is None else len(found[0]))
        self.assertLessEqual({0, 1, 2}, lengths)

    def test_long_ones(self):
        # Each kind lets the next longer one of some bodies through, told in another way.
        chance, lengths = random.Random(134), set()
        for _ in range(1500):
            kinds = tuple(random_relay(chance, [None, 0, 2]) for _ in range(3))
            links = tuple(link for link in all_links(kinds) if link in ((-1, 0), (0, 1), (1, 2), (2, 0), (1, 1)))
            unwanted = (chance.choice(WORDS),)
            found = bad_chain(kinds, links, [chance.choice(SENDERS)], unwanted)
            if found is not None and len(found[0]) > 2:
                lengths.add(len(found[0]))
                senders = [sender for sender in SENDERS if found[1] in model_sent([sender], 9)]
                chain = [kinds[place] for place in found[0]]
                self.assertTrue(any(word in unwanted for _, word in model_run(chain, found[1])[1]))
                self.assertIn(found[0], all_chains(kinds, links, len(found[0])))
                expected = slow_bad(kinds, links, senders, unwanted, len(found[0]))
                self.assertEqual(bad_chain(kinds, links, senders, unwanted), expected)
        self.assertIn(3, lengths)


class ClosedLists(unittest.TestCase):
    def test_it_is_closed_and_what_occurs(self):
        safe = 0
        for kinds, links, senders, unwanted in draws(135, 300):
            pairs, words = slow_occurring(kinds, links, senders)
            expected = None if words & set(unwanted) else pairs
            found = closed_list(kinds, links, senders, unwanted)
            with self.subTest(kinds=kinds, links=links, senders=senders, unwanted=unwanted):
                self.assertEqual(found, expected)
                self.assertIs(are_safe(kinds, links, senders, unwanted), expected is not None)
                if found is not None:
                    safe += 1
                    self.assertTrue(is_closed(kinds, links, senders, unwanted, found))
                    self.assertEqual(found, occurring(kinds, links, senders))
        self.assertGreater(safe, 30)

    def test_a_new_list(self):
        closed_list((REFUSER,), None, CLOSER, ()).clear()
        self.assertEqual(len(closed_list((REFUSER,), None, CLOSER, ())), 2)
        self.assertIs(type(closed_list((REFUSER,), None, [], ())), list)


def answers(kinds, links, senders, unwanted):
    """Return what all functions tell."""
    pairs = occurring(kinds, links, senders)
    reasons = [reason(kinds, links, senders, thing) for thing in pairs[:5]]
    return (pairs, reasons, bad_chain(kinds, links, senders, unwanted), closed_list(kinds, links, senders, unwanted))


class Sameness(unittest.TestCase):
    def test_order_and_repetition(self):
        for kinds, links, senders, unwanted in draws(136, 60):
            expected = answers(kinds, links, senders, unwanted)
            self.assertEqual(answers(kinds, links, senders[::-1], unwanted[::-1]), expected)
            self.assertEqual(answers(kinds, links, senders + senders[:1] + senders, unwanted), expected)
            if links is not None:
                self.assertEqual(answers(kinds, links[::-1], senders, unwanted), expected)

    def test_all_links_in_the_place_of_none(self):
        for kinds, _, senders, unwanted in draws(137, 60):
            expected = answers(kinds, None, senders, unwanted)
            self.assertEqual(answers(kinds, all_links(kinds), senders, unwanted), expected)
            self.assertEqual(answers(kinds, all_links(kinds)[::-1], senders, unwanted), expected)

    def test_what_is_passed_stays(self):
        for kinds, links, senders, unwanted in draws(138, 20):
            before = copy.deepcopy((kinds, links, senders, unwanted))
            answers(kinds, links, senders, unwanted)
            self.assertEqual((kinds, links, senders, unwanted), before)


class Sizes(unittest.TestCase):
    def test_six_kinds_with_four_holds_and_limits(self):
        chance = random.Random(139)
        begin = time.monotonic()
        for _ in range(12):
            kinds = tuple(random_relay(chance, [None, 0, 3, 7, 11, 16]) for _ in range(6))
            pairs = occurring(kinds, None, SENDERS)
            self.assertEqual(closed_list(kinds, None, SENDERS, ()), pairs)
            chain, sending = reason(kinds, None, SENDERS, pairs[-1])
            out = model_run([kinds[place] for place in chain], sending)[0][-1]
            self.assertEqual((chain[-1], model_standing(out, bounds_of(kinds))), pairs[-1])
            for word in WORDS:
                self.assertEqual(are_safe(kinds, None, SENDERS, (word,)), bad_chain(kinds, None, SENDERS, (word,)) is None)
        # Seconds, not minutes, on any machine.
        self.assertLess(time.monotonic() - begin, 60)

    def test_large_numbers(self):
        kinds = (relay_of(limit=10 ** 9, rest="leave"), relay_of(hold=10 ** 9 - 1, over="trim", whole="marks"))
        self.assertEqual(bad_chain(kinds, None, CLOSER, ("spills",)), None)
        for word, place, units in (("spills", 0, 10 ** 9 + 1), ("fooled", 1, 10 ** 9)):
            self.assertEqual(bad_chain(kinds, None, [("length", "none")], (word,)),
                             ((place,), (units, "length", units, units, "open")))


class Errors(unittest.TestCase):
    KINDS = (MARKER, SMALL)

    def calls(self, kinds, links, senders, unwanted):
        """Return calls of all functions, those with unwanted first."""
        calls = [lambda one=one: one(kinds, links, senders, unwanted) for one in (bad_chain, are_safe, closed_list)]
        things = [None, (0, (5, "marks", None, 5, "mark")), "x", ([], {})]
        calls.append(lambda: occurring(kinds, links, senders))
        return calls + [lambda one=one: reason(kinds, links, senders, one) for one in things]

    def refused(self, error, kinds, links, senders, unwanted, place=None):
        for number, call in enumerate(self.calls(kinds, links, senders, unwanted)):
            if error is not NoWord or number < 3:
                with self.subTest(number=number, links=links, senders=senders, unwanted=unwanted):
                    with self.assertRaises(error) as caught:
                        call()
                    self.assertIs(type(caught.exception), error)
                    if place is not None:
                        self.assertEqual(caught.exception.place, place)

    def test_kinds(self):
        for kinds, place in NO_KINDS:
            self.refused(NoRelay, kinds, None, SENDERS, ("fooled",), place)
        for kinds in ((), (PLAIN,) * 7):
            self.refused(Mismatch, kinds, None, SENDERS, ("fooled",))

    def test_links(self):
        for links in WRONG_LINKS:
            self.refused(Mismatch, self.KINDS, links, SENDERS, ("fooled",))
        self.refused(Mismatch, (PLAIN,), ((0, 1),), SENDERS, ())
        for links in ((), ((-1, 0),), ((1, 1), (-1, 1), (1, 0), (0, 0), (0, 1), (-1, 0))):
            for call in self.calls(self.KINDS, links, SENDERS, ()):
                call()

    def test_senders(self):
        for senders in WRONG_SENDERS:
            self.refused(NoSender, self.KINDS, None, senders, ("fooled",))

    def test_unwanted(self):
        for unwanted in WRONG_WORDS:
            self.refused(NoWord, self.KINDS, None, SENDERS, unwanted)
            self.refused(NoWord, self.KINDS, (), [], unwanted)
        for many in range(5):
            for unwanted in itertools.permutations(WORDS, many):
                bad_chain(self.KINDS, None, SENDERS, unwanted)

    def test_of_two_wrong_things_the_first_one_counts(self):
        self.refused(NoRelay, [PLAIN], [], (), [], -1)
        self.refused(NoRelay, (PLAIN, 7), ((0, 5),), (), [], 1)
        self.refused(NoRelay, (PLAIN,) * 7 + (None,), None, SENDERS, (), 7)
        self.refused(NoRelay, (None, PLAIN), None, (), (), 0)
        self.refused(NoRelay, (PLAIN, None), None, SENDERS, None, 1)
        self.refused(Mismatch, (), None, (), [])
        self.refused(Mismatch, (PLAIN,) * 7, None, SENDERS, None)
        self.refused(Mismatch, self.KINDS, [], (), [])
        self.refused(Mismatch, self.KINDS, ((0, 7),), None, ())
        self.refused(Mismatch, self.KINDS, ((0, 0), (0, 0)), SENDERS, None)
        self.refused(NoSender, self.KINDS, None, (), [])
        self.refused(NoSender, self.KINDS, (), [None], ("x",))

    def test_wrong_things_stay(self):
        thing = [[PLAIN], {"a": [1]}]
        before = copy.deepcopy(thing)
        self.refused(NoRelay, thing, None, [], ())
        self.refused(Mismatch, self.KINDS, thing, [], ())
        self.refused(NoSender, self.KINDS, None, thing, ())
        self.refused(NoWord, self.KINDS, None, [], thing)
        self.assertIsNone(reason(self.KINDS, None, SENDERS, thing))
        self.assertEqual(thing, before)


if __name__ == "__main__":
    unittest.main()
