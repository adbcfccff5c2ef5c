"""Point 16: events, live relays and live chains."""

import copy
import itertools
import random
import unittest

from cutrelays.chains import passed, read_behind
from cutrelays.errors import Mismatch, NoEvent, NoRelay, TooMany
from cutrelays.live import Live, LiveChain, events_of, is_event
from cutrelays.relays import relayed
from tools import NOTHINGS, PLAIN, deep, model_reading, model_relayed, random_relay, relay_of, right_sendings

LARGE = 10 ** 12
HEADS = [("head", "length", 0), ("head", "length", 5), ("head", "length", LARGE), ("head", "marks", None), ("head", "close", None)]
EVENTS = HEADS + [("units", 1), ("units", 7), ("units", LARGE), ("mark",), ("shut",), ("time",)]
NO_EVENTS = NOTHINGS + [
    None, (), ("head",), ("head", "length"), ("head", "length", None), ("head", "length", -1), ("head", "length", True),
    ("head", "length", "5"), ("head", "marks"), ("head", "marks", 0), ("head", "marks", 5), ("head", "close", 0),
    ("head", "same", None), ("head", None, None), ("head", 5, "length"), ("head", ["length"], 5), ("head", "length", 5, 0),
    ("head", "length", [5]), ("head", "marks", False), ["head", "marks", None], ("units",), ("units", 0), ("units", -1),
    ("units", True), ("units", None), ("units", "1"), ("units", 1, 1), ["units", 1], ("units", (1,)), ("mark", 1), ["mark"],
    "mark", ("shut", None), ["shut"], ("time", 0), ["time"], "time", ("Mark",), ("open",), (("mark",),), ("head", "mark", None),
    ("unit", 1), {"mark": 1}, ({"a": 1},), (["time"],), ("time",) * 2, deep(20),
]


def in_pieces(chance, units):
    """Return a tuple of pieces that add up to so many units."""
    pieces = []
    while units:
        pieces.append(chance.randrange(1, units + 1))
        units -= pieces[-1]
    return tuple(pieces)


def in_ones(units):
    return (1,) * units


class Model:
    """A live relay by the words of point 16: what it has sent on is worked out anew from all that came."""

    def __init__(self, relay):
        self.relay, self.came, self.got, self.cut, self.sent = relay, None, None, False, None

    def fits(self, event):
        if event == ("time",):
            return True
        if self.came is None:
            return event[0] == "head"
        way, told, units, end = self.came
        if event[0] == "units":
            return end == "open" and (way != "length" or units + event[1] <= told)
        return end == "open" and (event == ("shut",) or (event == ("mark",) and way == "marks"))

    def take(self, event):
        if event[0] == "head":
            self.came = (event[1], event[2], 0, "open")
        elif event[0] == "units":
            self.came = self.came[:2] + (self.came[2] + event[1], "open")
        elif event[0] != "time":
            self.came = self.came[:3] + event
        if not self.cut:
            self.got = self.came
            if event == ("time",) and self.relay[5] == "cut" and self.got and model_reading((0,) + self.got)[0] == "waits":
                self.cut, self.got = True, self.got[:3] + ("shut",)
        before, self.sent = self.sent, None
        if self.got is not None:
            out, _ = model_relayed(self.relay[:5] + ("wait",) + self.relay[6:], (77,) + self.got)
            self.sent = out and out[1:]
        return self.grown(before)

    def grown(self, before):
        if self.sent is None:
            return []
        way, told, units, end = self.sent
        events = [] if before else [("head", way, told)]
        before = before or (way, told, 0, "open")
        assert before[:2] == (way, told) and before[2] <= units and before[3] in ("open", end)
        if units > before[2]:
            events.append(("units", units - before[2]))
        return events + ([(end,)] if before[3] != end else [])


class ModelChain:
    def __init__(self, chain):
        self.relays, self.intake = [Model(relay) for relay in chain], Model(PLAIN)

    def take(self, event):
        self.intake.take(event)
        events = [] if event == ("time",) else [event]
        for relay in self.relays:
            events = [told for one in events + ([event] if event == ("time",) else []) for told in relay.take(one)]
        return events


def random_event(chance, fits):
    """Return one of some small events, most often one that can come next."""
    events = [("head", "length", chance.randrange(7)), ("head", "marks", None), ("head", "close", None), ("units", 1),
              ("units", chance.randrange(1, 5)), ("mark",), ("shut",), ("time",)]
    right = [event for event in events if fits(event) and (event[0] != "shut" or chance.randrange(3))]
    return chance.choice(right) if right and chance.randrange(6) else chance.choice(events)


class IsEvent(unittest.TestCase):
    def test_events(self):
        for event in EVENTS:
            with self.subTest(event=event):
                self.assertIs(is_event(event), True)

    def test_other_objects(self):
        for thing in NO_EVENTS:
            with self.subTest(thing=thing):
                self.assertIs(is_event(thing), False)


class OneRelay(unittest.TestCase):
    def told(self, relay, events, expected, got=None, sent=None):
        live = Live(relay)
        with self.subTest(relay=relay, events=events):
            self.assertEqual([live(event) for event in events], expected)
            if got:
                self.assertEqual(live.got, got)
            if sent:
                self.assertEqual(live.sent, sent)

    def test_it_begins_with_nothing(self):
        live = Live(PLAIN)
        self.assertEqual(live.relay, PLAIN)
        self.assertIsNone(live.got)
        self.assertIsNone(live.sent)
        self.assertEqual(live(("time",)), [])
        self.assertIsNone(live.got)

    def test_each_way_with_each_end_in_one_piece(self):
        whole = [("head", "length", 3), ("units", 3)]
        self.told(PLAIN, [("head", "length", 3), ("units", 3)], [[], whole], ("length", 3, 3, "open"))
        self.told(PLAIN, [("head", "length", 3), ("units", 3), ("shut",)], [[], whole, []], ("length", 3, 3, "shut"))
        self.told(PLAIN, [("head", "length", 0)], [[("head", "length", 0)]], ("length", 0, 0, "open"))
        self.told(PLAIN, [("head", "marks", None), ("units", 3), ("mark",)], [[], [], whole], ("marks", None, 3, "mark"))
        self.told(PLAIN, [("head", "close", None), ("units", 3), ("shut",)], [[], [], whole], ("close", None, 3, "shut"))
        self.told(PLAIN, [("head", "marks", None), ("mark",)], [[], [("head", "length", 0)]])
        self.told(PLAIN, [("head", "close", None), ("shut",)], [[], [("head", "length", 0)]])
        cut = [("head", "marks", None), ("units", 3), ("shut",)]
        self.told(PLAIN, cut, [[], [], [("head", "marks", None), ("units", 3), ("shut",)]], None, ("marks", None, 3, "shut"))
        cut = [("head", "length", 5), ("units", 3), ("shut",)]
        self.told(PLAIN, cut, [[], [], [("head", "length", 5), ("units", 3), ("shut",)]], None, ("length", 5, 3, "shut"))
        self.told(PLAIN, [("head", "length", 5), ("shut",)], [[], [("head", "length", 5), ("shut",)]])

    def test_many_pieces(self):
        self.told(relay_of(hold=2), [("head", "marks", None)] + [("units", 1)] * 4 + [("mark",)],
                  [[], [], [], [("head", "marks", None), ("units", 3)], [("units", 1)], [("mark",)]],
                  ("marks", None, 4, "mark"), ("marks", None, 4, "mark"))
        self.told(relay_of(hold=2, stream="close"), [("head", "length", 4)] + [("units", 1)] * 4,
                  [[], [], [], [("head", "close", None), ("units", 3)], [("units", 1), ("shut",)]])

    def test_at_hold_and_one_above(self):
        for way, told in (("length", 9), ("marks", None), ("close", None)):
            for hold in (0, 1, 3):
                live = Live(relay_of(hold=hold))
                live(("head", way, told))
                if hold:
                    self.assertEqual(live(("units", hold)), [])
                    self.assertIsNone(live.sent)
                self.assertEqual(live(("units", 1)), [("head", way, told), ("units", hold + 1)])
                self.assertEqual(live.sent, (way, told, hold + 1, "open"))
                trimmer = Live(relay_of(hold=hold, over="trim", whole="marks"))
                trimmer(("head", way, told))
                expected = [("head", "marks", None)] + ([("units", hold)] if hold else []) + [("mark",)]
                self.assertEqual(trimmer(("units", hold + 1)), expected)
                self.assertEqual(trimmer(("units", 1)), [])
                self.assertEqual(trimmer(("shut",)), [])

    def test_at_limit_and_one_above(self):
        for way in ("marks", "close"):
            head = ("head", way, None)
            self.told(relay_of(hold=0, limit=3), [head, ("units", 3), ("units", 1), ("units", 9)],
                      [[], [head, ("units", 3)], [("shut",)], []], (way, None, 13, "open"), (way, None, 3, "shut"))
            self.told(relay_of(hold=0, limit=3), [head, ("units", 4)], [[], [head, ("units", 3), ("shut",)]])
            self.told(relay_of(hold=0, limit=3, stream="marks", rest="drain"), [head, ("units", 4), ("shut",)],
                      [[], [("head", "marks", None), ("units", 3), ("shut",)], []])
            self.told(relay_of(hold=3, limit=3), [head, ("units", 3), ("units", 1), ("shut",)], [[], [], [], []])
            self.told(relay_of(hold=2, limit=3, over="trim", whole="close"), [head, ("units", 4)],
                      [[], [("head", "close", None), ("units", 2), ("shut",)]])
            self.told(relay_of(limit=3), [head, ("units", 4), ("shut",)], [[], [], []])
        self.told(relay_of(limit=3), [("head", "length", 3), ("units", 3)], [[], [("head", "length", 3), ("units", 3)]])
        self.told(relay_of(limit=3), [("head", "length", 4), ("units", 4), ("shut",)], [[], [], []])
        self.told(relay_of(hold=0, limit=3), [("head", "length", 4), ("units", 1), ("shut",)], [[], [], []])

    def test_cut_of_each_kind(self):
        for hold in (None, 0):
            events = [("head", "length", 5), ("units", 3), ("shut",)]
            for cut, expected in [("pass", [("head", "length", 5), ("units", 3), ("shut",)]),
                                  ("whole", [("head", "length", 3), ("units", 3)] if hold is None
                                   else [("head", "length", 5), ("units", 3)]),
                                  ("refuse", [] if hold is None else [("head", "length", 5), ("units", 3), ("shut",)])]:
                live = Live(relay_of(hold=hold, cut=cut))
                self.assertEqual([part for event in events for part in live(event)], expected)

    def test_streams(self):
        for stream, head, end in [("same", ("head", "length", 3), []), ("marks", ("head", "marks", None), [("mark",)]),
                                  ("close", ("head", "close", None), [("shut",)])]:
            self.told(relay_of(hold=0, stream=stream), [("head", "length", 3), ("units", 1), ("units", 2)],
                      [[], [head, ("units", 1)], [("units", 2)] + end])

    def test_a_time_with_wait(self):
        self.told(relay_of(hold=0), [("time",), ("head", "marks", None), ("time",), ("units", 1), ("time",), ("time",), ("mark",)],
                  [[], [], [], [("head", "marks", None), ("units", 1)], [], [], [("mark",)]], ("marks", None, 1, "mark"))

    def test_a_time_with_cut(self):
        relay = relay_of(wait="cut")
        self.told(relay, [("head", "length", 5), ("units", 3), ("time",)],
                  [[], [], [("head", "length", 5), ("units", 3), ("shut",)]], ("length", 5, 3, "shut"), ("length", 5, 3, "shut"))
        self.told(relay, [("head", "marks", None), ("time",)], [[], [("head", "marks", None), ("shut",)]])
        # A line that is shut is the end of a body that ends so.
        self.told(relay, [("head", "close", None), ("units", 2), ("time",)], [[], [], [("head", "length", 2), ("units", 2)]],
                  ("close", None, 2, "shut"))

    def test_a_time_ahead_of_the_head_and_behind_the_end_does_nothing(self):
        relay = relay_of(wait="cut")
        self.told(relay, [("time",), ("time",), ("head", "length", 2), ("units", 2)],
                  [[], [], [], [("head", "length", 2), ("units", 2)]], ("length", 2, 2, "open"))
        self.told(relay, [("head", "length", 2), ("units", 2), ("time",), ("shut",), ("time",)],
                  [[], [("head", "length", 2), ("units", 2)], [], [], []], ("length", 2, 2, "shut"))
        self.told(relay, [("head", "marks", None), ("mark",), ("time",)], [[], [("head", "length", 0)], []],
                  ("marks", None, 0, "mark"))
        self.told(relay, [("head", "marks", None), ("units", 1), ("shut",), ("time",)],
                  [[], [], [("head", "marks", None), ("units", 1), ("shut",)], []], ("marks", None, 1, "shut"))

    def test_what_comes_behind_a_time_that_shut_the_line_does_not_count(self):
        live = Live(relay_of(wait="cut", cut="whole"))
        live(("head", "length", 5))
        live(("units", 3))
        self.assertEqual(live(("time",)), [("head", "length", 3), ("units", 3)])
        before = (live.got, live.sent)
        for event in (("units", 1), ("time",), ("units", 1), ("shut",), ("time",)):
            self.assertEqual(live(event), [])
            self.assertEqual((live.got, live.sent), before)

    def test_what_comes_behind_such_a_time_tells_what_can_come_next(self):
        live = Live(relay_of(wait="cut"))
        for event in (("head", "length", 5), ("units", 3), ("time",)):
            live(event)
        self.refused(live, [("head", "length", 5), ("units", 3), ("mark",)])
        live(("units", 2))
        self.refused(live, [("units", 1), ("mark",), ("head", "marks", None)])
        live(("shut",))
        self.refused(live, [("shut",), ("units", 1)])
        live = Live(relay_of(wait="cut"))
        for event in (("head", "marks", None), ("time",), ("units", LARGE), ("mark",)):
            live(event)
        self.refused(live, [("mark",), ("shut",), ("units", 1), ("head", "marks", None)])
        self.assertEqual(live.got, ("marks", None, 0, "shut"))

    def refused(self, live, events):
        for event in events:
            before = (live.got, live.sent)
            with self.subTest(event=event), self.assertRaises(NoEvent):
                live(event)
            self.assertEqual((live.got, live.sent), before)

    def test_what_cannot_come_next(self):
        for relay in (PLAIN, relay_of(hold=0), relay_of(wait="cut"), relay_of(limit=0)):
            live = Live(relay)
            self.refused(live, [("units", 1), ("mark",), ("shut",)])
            live(("time",))
            self.refused(live, [("units", 1), ("mark",), ("shut",)])
            live(("head", "length", 3))
            self.refused(live, HEADS + [("mark",), ("units", 4)])
            live(("units", 2))
            self.refused(live, HEADS + [("mark",), ("units", 2)])
            live(("units", 1))
            self.refused(live, HEADS + [("mark",), ("units", 1)])
            live(("shut",))
            self.refused(live, HEADS + [("mark",), ("units", 1), ("shut",)])
            live(("time",))
            for way in ("marks", "close"):
                live = Live(relay)
                live(("head", way, None))
                self.refused(live, HEADS + ([("mark",)] if way == "close" else []))
                live(("units", LARGE))
                live(("units", 1))
                live(("mark",) if way == "marks" else ("shut",))
                self.refused(live, HEADS + [("mark",), ("shut",), ("units", 1)])

    def test_no_events(self):
        for begun in range(3):
            live = Live(PLAIN)
            for event in [("head", "marks", None), ("units", 2)][:begun]:
                live(event)
            self.refused(live, NO_EVENTS)

    def test_no_relay(self):
        for thing in NOTHINGS + [None, (), list(PLAIN), PLAIN[:7], (PLAIN,), (True,) + PLAIN[1:]]:
            with self.subTest(thing=thing), self.assertRaises(NoRelay) as caught:
                Live(thing)
            self.assertEqual(caught.exception.place, 0)

    def test_by_chance(self):
        chance, grown = random.Random(271), 0
        for _ in range(3000):
            relay = random_relay(chance, [None, 0, 1, 3])
            live, model = Live(relay), Model(relay)
            for _ in range(chance.randrange(1, 12)):
                event = random_event(chance, model.fits)
                if model.fits(event):
                    self.assertEqual(live(event), model.take(event))
                    grown += model.sent is not None
                else:
                    self.refused(live, [event])
                self.assertEqual((live.got, live.sent), (model.got, model.sent))
        self.assertGreater(grown, 3000)

    def test_pieces_and_a_time_behind_them(self):
        chance = random.Random(272)
        for _ in range(3000):
            relay, sending = random_relay(chance, [None, 0, 1, 3]), chance.choice(right_sendings(5))
            out, _ = relayed(relay, sending)
            live = Live(relay)
            told = [part for event in events_of(sending, in_pieces(chance, sending[3]), time=True) for part in live(event)]
            with self.subTest(relay=relay, sending=sending):
                self.assertEqual(live.sent, out and out[1:])
                self.assertEqual(joined(told), out and out[1:])

    def test_new_lists(self):
        live = Live(relay_of(hold=0))
        live(("head", "marks", None))
        live(("units", 1)).clear()
        self.assertEqual(live.sent, ("marks", None, 1, "open"))
        self.assertEqual(live(("units", 1)), [("units", 1)])
        self.assertIs(type(live(("time",))), list)


def joined(events):
    """Return what has come by some events, None for none."""
    model = Model(PLAIN)
    for event in events:
        assert model.fits(event)
        model.take(event)
    return model.came


class Chains(unittest.TestCase):
    def test_it_begins_with_nothing(self):
        for many in range(13):
            line = LiveChain((PLAIN,) * many)
            self.assertEqual([line.chain, len(line), line.got, line.sent, line.read()], [(PLAIN,) * many, many, None, None, None])
            for place in range(many):
                self.assertIsNone(line.sent_at(place))

    def test_the_empty_chain(self):
        line = LiveChain(())
        events = [("time",), ("head", "length", 3), ("units", 2), ("time",), ("units", 1), ("shut",), ("time",)]
        told = [line(event) for event in events]
        self.assertEqual(told, [[] if event == ("time",) else [event] for event in events])
        self.assertEqual([line.got, line.sent, line.read()], [("length", 3, 3, "shut")] * 2 + [("whole", 3)])
        line = LiveChain(())
        for event in [("head", "marks", None), ("units", 3), ("time",)]:
            line(event)
        self.assertEqual([line.got, line.sent, line.read()], [("marks", None, 3, "open")] * 2 + [("waits", 3)])
        for event in [("head", "marks", None), None, ("units", 0), ["mark"]]:
            with self.assertRaises(NoEvent):
                line(event)

    def test_twelve_and_thirteen_relays(self):
        line = LiveChain((relay_of(hold=0, stream="marks"),) * 12)
        self.assertEqual(line(("head", "close", None)), [])
        self.assertEqual(line(("units", 4)), [("head", "marks", None), ("units", 4)])
        self.assertEqual(line(("shut",)), [("mark",)])
        self.assertEqual([line.sent_at(place) for place in range(12)], [("marks", None, 4, "mark")] * 12)
        for many in (13, 20, 100):
            with self.assertRaises(TooMany) as caught:
                LiveChain((PLAIN,) * many)
            self.assertEqual(caught.exception.limit, 12)

    def test_no_chain(self):
        cases = [([PLAIN], -1), (None, -1), ("", -1), ({}, -1), ((None,), 0), ((PLAIN, 7), 1), (PLAIN, 0), ((PLAIN,) * 13 + (1,), 13),
                 ((PLAIN, list(PLAIN)), 1), (((PLAIN,),), 0)]
        for chain, place in cases + [(thing, -1) for thing in NOTHINGS if not isinstance(thing, tuple)]:
            with self.subTest(chain=chain), self.assertRaises(NoRelay) as caught:
                LiveChain(chain)
            self.assertEqual(caught.exception.place, place)

    def test_got_is_what_came_whatever_times_did(self):
        line = LiveChain((relay_of(wait="cut"),))
        for event in [("head", "length", 5), ("units", 3), ("time",)]:
            line(event)
        self.assertEqual([line.got, line.sent, line.read()], [("length", 5, 3, "open"), ("length", 5, 3, "shut"), ("cut", 3)])
        self.assertEqual(line(("units", 2)), [])
        self.assertEqual([line.got, line.sent], [("length", 5, 5, "open"), ("length", 5, 3, "shut")])
        with self.assertRaises(NoEvent):
            line(("units", 1))
        self.assertEqual(line.got, ("length", 5, 5, "open"))

    def test_times_go_through(self):
        # The first relay waits for ever; the second one ends what it got, and the third one ends what it streamed.
        line = LiveChain((relay_of(hold=0), relay_of(wait="cut", hold=0, stream="marks"), relay_of(hold=0, cut="whole")))
        self.assertEqual([line(event) for event in [("head", "length", 4), ("units", 2), ("time",), ("units", 1), ("time",)]],
                         [[], [("head", "marks", None), ("units", 2)], [("mark",)], [], []])
        self.assertEqual([line.sent_at(place) for place in range(3)],
                         [("length", 4, 3, "open"), ("marks", None, 2, "shut"), ("marks", None, 2, "mark")])

    def test_a_time_comes_behind_what_the_relay_ahead_returns_for_it(self):
        # By this time the first relay sends on a whole body, so the second one, which gets the time then, does not wait.
        line = LiveChain((relay_of(wait="cut", cut="whole"), relay_of(wait="cut", whole="marks")))
        line(("head", "length", 4))
        line(("units", 3))
        self.assertEqual(line(("time",)), [("head", "marks", None), ("units", 3), ("mark",)])
        # And here it does, so the same time shuts both.
        line = LiveChain((relay_of(wait="cut", hold=0, cut="whole"), relay_of(wait="cut", whole="marks")))
        line(("head", "length", 4))
        line(("units", 3))
        self.assertEqual(line.sent_at(0), ("length", 4, 3, "open"))
        self.assertEqual(line(("time",)), [("head", "length", 4), ("units", 3), ("shut",)])

    def test_by_chance(self):
        chance = random.Random(273)
        for _ in range(2000):
            chain = tuple(random_relay(chance, [None, 0, 1, 3]) for _ in range(chance.randrange(6)))
            line, model = LiveChain(chain), ModelChain(chain)
            for _ in range(chance.randrange(1, 12)):
                event = random_event(chance, model.intake.fits)
                if model.intake.fits(event):
                    self.assertEqual(line(event), model.take(event))
                else:
                    with self.assertRaises(NoEvent):
                        line(event)
                self.assertEqual(line.got, model.intake.came)
                self.assertEqual([line.sent_at(place) for place in range(len(chain))], [one.sent for one in model.relays])
                sent = model.relays[-1].sent if chain else model.intake.came
                self.assertEqual(line.sent, sent)
                self.assertEqual(line.read(), sent and model_reading((0,) + sent))

    def test_pieces_and_a_time_behind_them(self):
        chance = random.Random(274)
        for _ in range(1500):
            chain = tuple(random_relay(chance, [None, 0, 1, 3]) for _ in range(chance.choice([0, 1, 2, 3, 5, 12])))
            sending = chance.choice(right_sendings(5))
            come = passed(chain, sending)
            for pieces in (in_ones(sending[3]), in_pieces(chance, sending[3])):
                line = LiveChain(chain)
                told = [part for event in events_of(sending, pieces, time=True) for part in line(event)]
                with self.subTest(chain=chain, sending=sending, pieces=pieces):
                    self.assertEqual([line.sent_at(place) for place in range(len(chain))], [out and out[1:] for out in come[1:]])
                    self.assertEqual([line.sent, joined(told)], [come[-1] and come[-1][1:]] * 2)
                    self.assertEqual(line.read(), read_behind(chain, sending))
                    self.assertEqual(line.got, sending[1:])

    def test_sent_at_of_any_object(self):
        for many in (0, 1, 3):
            line = LiveChain((relay_of(hold=0),) * many)
            for event in [("head", "marks", None), ("units", 1)]:
                line(event)
            for place in NOTHINGS + [None, many, many + 1, -1, LARGE, True, False, "0", (0,), [0], deep(20)]:
                if place not in range(many) or isinstance(place, bool):
                    with self.subTest(place=place), self.assertRaises(Mismatch):
                        line.sent_at(place)
            for place in range(many):
                self.assertEqual(line.sent_at(place), ("marks", None, 1, "open"))

    def test_read(self):
        line = LiveChain((PLAIN,))
        expected = [None, None, ("cut", 2), ("cut", 2)]
        events = [("head", "length", 4), ("units", 2), ("shut",), ("time",)]
        self.assertEqual([(line(event), line.read())[1] for event in events], expected)
        line = LiveChain((relay_of(hold=1),))
        events = [("head", "length", 4), ("units", 2), ("units", 2)]
        self.assertEqual([(line(event), line.read())[1] for event in events], [None, ("waits", 2), ("whole", 4)])

    def test_what_is_refused_changes_nothing(self):
        line = LiveChain((relay_of(hold=0), relay_of(hold=1)))
        for begun in [(), [("head", "length", 4)], [("units", 2)], [("shut",)]]:
            for event in begun:
                line(event)
            before = (line.got, line.sent, line.sent_at(0), line.sent_at(1), line.read())
            for event in NO_EVENTS + [("units", 5), ("mark",)]:
                with self.subTest(event=event), self.assertRaises(NoEvent):
                    line(event)
                self.assertEqual((line.got, line.sent, line.sent_at(0), line.sent_at(1), line.read()), before)

    def test_two_lines_on_one_chain_are_two(self):
        chain = (relay_of(hold=0),)
        one, other = LiveChain(chain), LiveChain(chain)
        one(("head", "marks", None))
        one(("units", 3))
        self.assertIsNone(other.got)
        self.assertEqual(other(("head", "close", None)), [])
        self.assertEqual(one.got, ("marks", None, 3, "open"))

    def test_new_lists(self):
        line = LiveChain(())
        line(("head", "marks", None)).append(1)
        self.assertEqual(line(("units", 1)), [("units", 1)])


class EventsOf(unittest.TestCase):
    def test_each_way_and_end(self):
        self.assertEqual(events_of((5, "length", 4, 3, "shut"), (3,)), [("head", "length", 4), ("units", 3), ("shut",)])
        self.assertEqual(events_of((5, "length", 4, 3, "open"), (1, 2)), [("head", "length", 4), ("units", 1), ("units", 2)])
        self.assertEqual(events_of((5, "marks", None, 2, "mark"), (1, 1)),
                         [("head", "marks", None), ("units", 1), ("units", 1), ("mark",)])
        self.assertEqual(events_of((5, "marks", None, 2, "shut"), (2,)), [("head", "marks", None), ("units", 2), ("shut",)])
        self.assertEqual(events_of((5, "close", None, 0, "open"), ()), [("head", "close", None)])

    def test_with_a_time(self):
        sending = (5, "close", None, 1, "shut")
        told = [("head", "close", None), ("units", 1), ("shut",)]
        self.assertEqual(events_of(sending, (1,), time=True), told + [("time",)])
        self.assertEqual(events_of(sending, (1,), time=False), told)
        self.assertEqual(events_of((1, "length", 0, 0, "open"), (), time=True), [("head", "length", 0), ("time",)])

    def test_time_is_passed_by_its_name(self):
        with self.assertRaises(TypeError):
            events_of((5, "close", None, 1, "shut"), (1,), True)

    def test_all_small_ones(self):
        for sending in right_sendings(4):
            for pieces in itertools.product((1, 2, 3), repeat=2):
                if sum(pieces) == sending[3]:
                    for time in (False, True):
                        events = events_of(sending, pieces, time=time)
                        self.assertTrue(all(is_event(event) for event in events))
                        self.assertEqual([event[1] for event in events if event[0] == "units"], list(pieces))
                        self.assertIs(events[-1] == ("time",), time)
                        self.assertEqual(joined(events), sending[1:])
                else:
                    for time in (False, True):
                        with self.assertRaises(Mismatch):
                            events_of(sending, pieces, time=time)

    def test_pieces_that_do_not_add_up(self):
        for pieces in [(), (1,), (2, 2), (4,), (1, 1), (3, 1), (LARGE,)]:
            with self.subTest(pieces=pieces), self.assertRaises(Mismatch):
                events_of((5, "length", 4, 3, "shut"), pieces)
        with self.assertRaises(Mismatch):
            events_of((5, "length", 4, 0, "shut"), (1,))

    def test_new_lists_and_what_is_passed_stays(self):
        sending, pieces = (5, "length", 4, 3, "shut"), (1, 2)
        before = copy.deepcopy((sending, pieces))
        events_of(sending, pieces).clear()
        self.assertEqual(len(events_of(sending, pieces)), 4)
        self.assertEqual((sending, pieces), before)


if __name__ == "__main__":
    unittest.main()
