"""Point 8: what becomes of sendings along chains."""

import copy
import random
import unittest

from cutrelays.chains import outcome, passed, read_behind, run_troubles, words_of
from cutrelays.errors import NoRelay, NoSending
from tools import NOTHINGS, PLAIN, model_outcome, model_reading, model_run, random_relay, relay_of, right_sendings

FUNCTIONS = [passed, run_troubles, read_behind, words_of]
ENDER = relay_of(cut="whole")
REFUSER = relay_of(cut="refuse")
STREAMER = relay_of(hold=0, stream="marks")
SMALL = relay_of(limit=4, rest="leave")
CUT = (5, "length", 5, 3, "shut")
WAITING = (5, "length", 5, 3, "open")
WHOLE = (5, "length", 5, 5, "open")


class Runs(unittest.TestCase):
    def goes(self, chain, sending, come, troubles, words):
        """Check what each function tells of a run; what comes to the relays and the reader is told as a list."""
        with self.subTest(chain=chain, sending=sending):
            self.assertEqual(passed(chain, sending), come)
            self.assertEqual(run_troubles(chain, sending), troubles)
            self.assertEqual(read_behind(chain, sending), None if come[-1] is None else model_reading(come[-1]))
            self.assertEqual(words_of(chain, sending), words)

    def test_the_empty_chain(self):
        self.goes((), WHOLE, [WHOLE], [], ())
        self.goes((), CUT, [CUT], [], ())
        self.goes((), WAITING, [WAITING], [(0, "waits")], ())
        self.goes((), (5, "close", None, 3, "shut"), [(5, "close", None, 3, "shut")], [(0, "fooled")], ())

    def test_one_relay(self):
        self.goes((PLAIN,), WHOLE, [WHOLE, WHOLE], [], ())
        self.goes((PLAIN,), CUT, [CUT, CUT], [], ())
        self.goes((PLAIN,), WAITING, [WAITING, None], [(0, "waits")], ("waits",))
        self.goes((ENDER,), CUT, [CUT, (5, "length", 3, 3, "open")], [(1, "fooled")], ())
        self.goes((SMALL,), WHOLE, [WHOLE, None], [(0, "spills"), (0, "lost")], ("lost", "spills"))

    def test_one_relay_several_times(self):
        marks = (5, "marks", None, 3, "open")
        self.goes((STREAMER,) * 3, WAITING, [WAITING, marks, marks, marks],
                  [(0, "waits"), (1, "waits"), (2, "waits"), (3, "waits")], ("waits",))
        ended = (5, "length", 3, 3, "open")
        self.goes((ENDER,) * 3, CUT, [CUT, ended, ended, ended], [(1, "fooled"), (2, "fooled"), (3, "fooled")], ("fooled",))

    def test_nothing_comes_behind(self):
        self.goes((PLAIN, ENDER, SMALL), WAITING, [WAITING, None, None, None], [(0, "waits")], ("waits",))
        self.goes((REFUSER, SMALL), CUT, [CUT, None, None], [], ())

    def test_not_sent_on_amid_a_chain(self):
        self.goes((PLAIN, SMALL, ENDER, PLAIN), WHOLE, [WHOLE, WHOLE, None, None, None],
                  [(1, "spills"), (1, "lost")], ("lost", "spills"))
        self.goes((PLAIN, REFUSER, ENDER), CUT, [CUT, CUT, None, None], [], ())

    def test_the_reader_stands_behind_the_relays(self):
        for many in range(5):
            chain = (STREAMER,) * many + (ENDER,)
            self.assertEqual(run_troubles(chain, CUT)[-1], (many + 1, "fooled"))
            self.assertEqual(read_behind(chain, CUT), ("whole", 3))
            self.assertNotIn("fooled", words_of(chain, CUT))

    def test_words_are_ascending_and_each_once(self):
        waiter = relay_of(hold=0, stream="same")
        chain = (waiter, waiter, relay_of(hold=0, stream="close", cut="whole"), relay_of(wait="cut", hold=0), SMALL)
        self.assertEqual(words_of(chain, (5, "length", 5, 4, "open")), ("fooled", "waits"))
        one, other = relay_of(hold=0, over="trim", whole="marks"), relay_of(limit=0, rest="leave")
        self.assertEqual(words_of((waiter, one, one), (5, "length", 9, 3, "open")), ("fooled", "waits"))
        self.assertEqual(run_troubles((other,), (1, "marks", None, 1, "mark")), [(0, "spills"), (0, "lost")])
        self.assertEqual(words_of((other,), (1, "marks", None, 1, "mark")), ("lost", "spills"))

    def test_chains_by_chance(self):
        chance = random.Random(8)
        sendings = right_sendings(4)
        for _ in range(3000):
            chain = tuple(random_relay(chance, [None, 0, 2, 3]) for _ in range(chance.randrange(6)))
            sending = chance.choice(sendings)
            come, troubles = model_run(chain, sending)
            self.goes(chain, sending, come, troubles, model_outcome(chain, sending)[1])
            self.assertEqual(outcome(chain, sending), model_outcome(chain, sending))

    def test_a_long_chain(self):
        self.assertEqual(passed((PLAIN,) * 2000, WHOLE), [WHOLE] * 2001)
        self.assertEqual(run_troubles((STREAMER,) * 2000, WAITING), [(place, "waits") for place in range(2001)])

    def test_new_lists_and_what_is_passed_stays(self):
        chain = (STREAMER, ENDER)
        for function in (passed, run_troubles):
            first = function(chain, CUT)
            self.assertIs(type(first), list)
            kept = list(first)
            first.append(None)
            first[0] = None
            self.assertEqual(function(chain, CUT), kept)
        self.assertEqual(chain, (STREAMER, ENDER))
        self.assertIs(type(words_of(chain, CUT)), tuple)
        self.assertIs(type(read_behind(chain, CUT)), tuple)
        self.assertEqual([type(pair) for pair in run_troubles(chain, WAITING)], [tuple] * 2)


class Errors(unittest.TestCase):
    def refused(self, place, chain, sending):
        for function in FUNCTIONS:
            with self.subTest(function=function.__name__, chain=chain), self.assertRaises(NoRelay) as caught:
                function(chain, sending)
            self.assertEqual(caught.exception.place, place)

    def test_no_tuple(self):
        for thing in NOTHINGS + [None, [PLAIN], {0: PLAIN}, list(PLAIN)]:
            if not isinstance(thing, tuple):
                self.refused(-1, thing, WHOLE)
                self.refused(-1, thing, None)

    def test_no_relay_at_a_place(self):
        for wrong in NOTHINGS + [None, list(PLAIN), PLAIN[:7], relay_of(cut="cut"), WHOLE, (PLAIN,)]:
            for place in range(3):
                self.refused(place, (PLAIN,) * place + (wrong,) + (ENDER,) * (2 - place), WHOLE)

    def test_a_relay_is_no_chain(self):
        self.refused(0, PLAIN, WHOLE)

    def test_the_first_of_two_wrong_ones_counts(self):
        self.refused(1, (PLAIN, None, PLAIN, 7), WHOLE)
        self.refused(0, ([], [], PLAIN), WHOLE)
        self.refused(2, (PLAIN, PLAIN, (), None), None)

    def test_a_wrong_relay_that_nothing_comes_to(self):
        self.refused(1, (REFUSER, None), CUT)

    def test_no_sending(self):
        for thing in NOTHINGS + [None, list(WHOLE), WHOLE[:4], (5, "length", 2, 3, "open"), (True,) + WHOLE[1:]]:
            for chain in ((), (PLAIN,), (PLAIN, ENDER)):
                for function in FUNCTIONS:
                    with self.subTest(thing=thing, function=function.__name__), self.assertRaises(NoSending):
                        function(chain, thing)

    def test_a_wrong_chain_ahead_of_a_wrong_sending(self):
        self.refused(-1, [PLAIN], ())
        self.refused(1, (PLAIN, PLAIN[:7]), "x")

    def test_wrong_things_stay(self):
        things = [[[PLAIN], ["a"]], ([PLAIN], {"a": []}), {"a": [1]}]
        before = copy.deepcopy(things)
        for thing in things:
            for function in FUNCTIONS:
                for arguments in ((thing, WHOLE), ((PLAIN,), thing)):
                    with self.assertRaises((NoRelay, NoSending)):
                        function(*arguments)
        self.assertEqual(things, before)


if __name__ == "__main__":
    unittest.main()
