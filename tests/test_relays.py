"""Points 5, 6 and 7: relays, and what they do with sendings."""

import copy
import inspect
import unittest

from cutrelays.errors import NoRelay, NoSending
from cutrelays.relays import is_long, is_relay, led, made, relayed
from tools import NOTHINGS, PLAIN, SETTINGS, WORDS_OF, all_relays, deep, model_relayed, relay_of, right_sendings

SIZES = [None, 0, 1, 7, 10 ** 9, 10 ** 12]
WRONG_SIZES = [True, False, -1, -10 ** 12, "", "0", "all", "none", "None", (), (1,), [], [1], {}, {1: 1}]
WRONG_WORDS = [None, True, False, 0, 1, "", "x", [], {}, (), "Stream", "marks ", " cut", "non", ["same"], ("same",)]
LARGE = 10 ** 12


def values_of(name):
    return SIZES if name in ("hold", "limit") else WORDS_OF[name]


def wrong_values_of(name):
    """Return things that do not stand for a setting, the words of the other settings among them."""
    if name in ("hold", "limit"):
        return WRONG_SIZES + [word for words in WORDS_OF.values() for word in words]
    others = [word for words in WORDS_OF.values() for word in words if word not in WORDS_OF[name]]
    return WRONG_WORDS + others + ["all", "none", "open", "mark", "length2", "whole body"]


class IsRelay(unittest.TestCase):
    def wrong(self, thing):
        with self.subTest(thing=thing):
            self.assertIs(is_relay(thing), False)

    def test_each_word_of_each_setting(self):
        for relay in all_relays([None, 3], [None, 5]):
            self.assertIs(is_relay(relay), True)

    def test_each_size(self):
        for relay in [relay_of(hold=hold, limit=limit) for hold in SIZES for limit in SIZES]:
            with self.subTest(relay=relay):
                self.assertIs(is_relay(relay), True)

    def test_wrong_things_in_each_place(self):
        for start in (PLAIN, relay_of(hold=4, over="trim", whole="marks", stream="close", limit=9)):
            for place, name in enumerate(SETTINGS):
                for thing in wrong_values_of(name):
                    self.wrong(start[:place] + (thing,) + start[place + 1:])

    def test_settings_in_another_order(self):
        self.wrong(PLAIN[::-1])
        for place in range(7):
            if PLAIN[place] != PLAIN[place + 1]:
                self.wrong(PLAIN[:place] + (PLAIN[place + 1], PLAIN[place]) + PLAIN[place + 2:])

    def test_other_lengths_of_the_tuple(self):
        for length in range(8):
            self.wrong(PLAIN[:length])
        self.wrong(PLAIN + (None,))
        self.wrong(PLAIN + PLAIN)
        self.wrong((PLAIN,))
        self.wrong((None,) * 8)

    def test_a_list_in_the_place_of_the_tuple(self):
        self.wrong(list(PLAIN))
        self.wrong(dict(enumerate(PLAIN)))
        self.wrong(dict(zip(SETTINGS, PLAIN)))

    def test_objects_that_are_no_tuples(self):
        for thing in NOTHINGS + [None, "streamed", 10 ** 40]:
            self.wrong(thing)
        self.assertIs(is_relay([0] * 100000), False)
        self.assertIs(is_relay((0,) * 100000), False)


class Made(unittest.TestCase):
    def test_none_of_the_settings(self):
        self.assertEqual(made(), (None, "stream", "length", "same", "pass", "wait", None, "shut"))

    def test_each_setting_alone(self):
        for place, name in enumerate(SETTINGS):
            for value in values_of(name):
                with self.subTest(name=name, value=value):
                    self.assertEqual(made(**{name: value}), PLAIN[:place] + (value,) + PLAIN[place + 1:])

    def test_all_settings(self):
        for relay in all_relays([0, 4], [None, 9])[::7]:
            self.assertEqual(made(**dict(zip(SETTINGS, relay))), relay)
            self.assertEqual(made(**dict(list(zip(SETTINGS, relay))[::-1])), relay)

    def test_wrong_ones(self):
        for name in SETTINGS:
            for thing in wrong_values_of(name):
                with self.subTest(name=name, thing=thing), self.assertRaises(NoRelay) as caught:
                    made(**{name: thing})
                self.assertEqual(caught.exception.place, 0)
        with self.assertRaises(NoRelay):
            made(hold=-1, rest="wait")

    def test_settings_are_passed_by_their_names(self):
        with self.assertRaises(TypeError):
            made(4)
        with self.assertRaises(TypeError):
            made(size=4)
        for name, setting in inspect.signature(made).parameters.items():
            self.assertIs(setting.kind, inspect.Parameter.KEYWORD_ONLY)
            self.assertEqual(setting.default, PLAIN[SETTINGS.index(name)])


class IsLong(unittest.TestCase):
    def test_no_hold(self):
        for units in (0, 1, 10 ** 9, LARGE):
            self.assertIs(is_long(made(), units), False)
            self.assertIs(is_long(made(limit=0), units), False)

    def test_around_the_hold(self):
        for hold in (0, 1, 4, 10 ** 9):
            for relay in (made(hold=hold), made(hold=hold, limit=2, over="trim", cut="whole")):
                self.assertIs(is_long(relay, hold), False)
                self.assertIs(is_long(relay, hold + 1), True)
                self.assertIs(is_long(relay, LARGE), True)
                if hold > 0:
                    self.assertIs(is_long(relay, hold - 1), False)
                    self.assertIs(is_long(relay, 0), False)


class Cases(unittest.TestCase):
    def gives(self, settings, sending, out, *troubles):
        relay = made(**settings)
        with self.subTest(settings=settings, sending=sending):
            self.assertEqual(relayed(relay, sending), (out, troubles))
            self.assertEqual(led(relay, sending), (out, troubles))


class WaitSettings(Cases):
    """Rule 1: a relay shuts a line on which nothing more comes."""

    def test_wait(self):
        for sending in [(5, "length", 5, 3, "open"), (5, "marks", None, 3, "open"), (5, "close", None, 5, "open")]:
            self.gives({}, sending, None, "waits")
            self.gives({"cut": "whole"}, sending, None, "waits")
            self.gives({"cut": "refuse"}, sending, None, "waits")

    def test_cut_makes_a_body_cut(self):
        told, marked = (5, "length", 5, 3, "open"), (5, "marks", None, 3, "open")
        self.gives({"wait": "cut"}, told, (5, "length", 5, 3, "shut"))
        self.gives({"wait": "cut"}, marked, (5, "marks", None, 3, "shut"))
        self.gives({"wait": "cut", "cut": "whole"}, told, (5, "length", 3, 3, "open"))
        self.gives({"wait": "cut", "cut": "whole"}, marked, (5, "length", 3, 3, "open"))
        self.gives({"wait": "cut", "cut": "refuse"}, told, None)
        self.gives({"wait": "cut", "cut": "refuse"}, marked, None)
        self.gives({"wait": "cut", "cut": "refuse"}, (3, "length", 5, 3, "open"), None)

    def test_cut_makes_a_body_whole_that_ends_where_the_line_is_shut(self):
        self.gives({"wait": "cut"}, (5, "close", None, 5, "open"), (5, "length", 5, 5, "open"))
        self.gives({"wait": "cut"}, (5, "close", None, 3, "open"), (5, "length", 3, 3, "open"), "fooled")
        self.gives({"wait": "cut", "cut": "refuse"}, (5, "close", None, 3, "open"), (5, "length", 3, 3, "open"), "fooled")

    def test_what_does_not_wait_is_left_alone(self):
        for relay in ({}, {"wait": "cut"}):
            self.gives(relay, (5, "length", 5, 5, "open"), (5, "length", 5, 5, "open"))
            self.gives(relay, (5, "marks", None, 5, "mark"), (5, "length", 5, 5, "open"))
            self.gives(relay, (5, "close", None, 5, "shut"), (5, "length", 5, 5, "open"))
            self.gives(relay, (5, "length", 5, 3, "shut"), (5, "length", 5, 3, "shut"))

    def test_cut_with_a_long_body(self):
        self.gives({"wait": "cut", "hold": 2}, (5, "length", 5, 3, "open"), (5, "length", 5, 3, "shut"))
        self.gives({"wait": "cut", "hold": 2}, (5, "marks", None, 3, "open"), (5, "marks", None, 3, "shut"))
        self.gives({"wait": "cut", "hold": 2}, (5, "close", None, 5, "open"), (5, "close", None, 5, "shut"))
        self.gives({"wait": "cut", "hold": 2, "cut": "whole", "stream": "marks"}, (5, "length", 5, 3, "open"),
                   (5, "marks", None, 3, "mark"))

    def test_cut_with_a_refused_body(self):
        told, marked = (20, "length", 20, 12, "open"), (20, "marks", None, 12, "open")
        closed = (12, "close", None, 12, "open")
        for rest in ("shut", "leave", "drain"):
            relay = {"wait": "cut", "limit": 9, "rest": rest}
            self.gives(relay, told, None)
            self.gives(relay, marked, None)
            self.gives(relay, closed, None, "lost")
        self.gives({"limit": 9, "rest": "leave"}, told, None, "spills")
        self.gives({"limit": 9, "rest": "drain"}, told, None, "waits")
        self.gives({"limit": 9, "rest": "leave"}, closed, None, "spills")
        self.gives({"limit": 9, "rest": "drain"}, closed, None, "waits")


class Limits(Cases):
    """Rule 2: a body above the limit is refused."""

    def test_a_told_length_around_the_limit(self):
        for rest in ("shut", "leave", "drain"):
            relay = {"limit": 9, "rest": rest}
            self.gives(relay, (8, "length", 8, 8, "open"), (8, "length", 8, 8, "open"))
            self.gives(relay, (9, "length", 9, 9, "open"), (9, "length", 9, 9, "open"))
        self.gives({"limit": 9}, (10, "length", 10, 10, "open"), None, "lost")
        self.gives({"limit": 9}, (LARGE, "length", LARGE, LARGE, "open"), None, "lost")

    def test_the_told_length_counts_though_less_comes(self):
        self.gives({"limit": 9}, (10, "length", 10, 3, "shut"), None)
        self.gives({"limit": 9}, (10, "length", 10, 0, "open"), None)
        self.gives({"limit": 9}, (3, "length", 10, 3, "shut"), None)
        self.gives({"limit": 9}, (10, "length", 9, 3, "shut"), (10, "length", 9, 3, "shut"))

    def test_units_around_the_limit(self):
        for way, end in (("marks", "mark"), ("close", "shut")):
            self.gives({"limit": 9}, (8, way, None, 8, end), (8, "length", 8, 8, "open"))
            self.gives({"limit": 9}, (9, way, None, 9, end), (9, "length", 9, 9, "open"))
            self.gives({"limit": 9}, (10, way, None, 10, end), None, "lost")
            self.gives({"limit": 9}, (LARGE, way, None, LARGE, end), None, "lost")
            self.gives({"limit": 9}, (11, way, None, 10, end), None)
            self.gives({"limit": 0}, (0, way, None, 0, end), (0, "length", 0, 0, "open"))
            self.gives({"limit": 0}, (1, way, None, 1, end), None, "lost")

    def test_shut_has_no_trouble(self):
        for sending in [(20, "length", 20, 12, "open"), (20, "length", 20, 12, "shut"), (5, "length", 12, 12, "open"),
                        (20, "marks", None, 12, "open"), (20, "marks", None, 12, "mark"), (5, "close", None, 12, "shut")]:
            self.gives({"limit": 9, "rest": "shut"}, sending, None)

    def test_leave_spills_what_is_left_of_a_told_body(self):
        relay = {"limit": 9, "rest": "leave"}
        self.gives(relay, (20, "length", 20, 0, "open"), None)
        self.gives(relay, (20, "length", 20, 1, "open"), None, "spills")
        self.gives(relay, (20, "length", 20, 9, "open"), None, "spills")
        self.gives(relay, (20, "length", 20, 20, "open"), None, "spills", "lost")
        self.gives(relay, (20, "length", 20, 20, "shut"), None, "lost")
        self.gives(relay, (20, "length", 20, 1, "shut"), None)
        self.gives(relay, (5, "length", 20, 20, "open"), None, "spills")

    def test_leave_spills_what_is_left_of_other_bodies(self):
        relay = {"limit": 9, "rest": "leave"}
        self.gives(relay, (20, "marks", None, 9, "open"), None, "waits")
        self.gives(relay, (20, "marks", None, 10, "open"), None, "spills")
        self.gives(relay, (10, "marks", None, 10, "mark"), None, "spills", "lost")
        self.gives(relay, (20, "marks", None, 10, "mark"), None, "spills")
        self.gives(relay, (20, "marks", None, 10, "shut"), None)
        self.gives(relay, (20, "close", None, 10, "open"), None, "spills")
        self.gives(relay, (10, "close", None, 10, "shut"), None, "lost")

    def test_drain_has_the_troubles_of_the_reading_but_fooled(self):
        relay = {"limit": 9, "rest": "drain"}
        self.gives(relay, (20, "length", 20, 12, "open"), None, "waits")
        self.gives(relay, (20, "length", 20, 12, "shut"), None)
        self.gives(relay, (5, "length", 12, 12, "open"), None)
        self.gives(relay, (12, "length", 12, 12, "open"), None, "lost")
        self.gives(relay, (20, "marks", None, 12, "open"), None, "waits")
        self.gives(relay, (20, "marks", None, 12, "shut"), None)
        self.gives(relay, (5, "marks", None, 12, "mark"), None)
        self.gives(relay, (12, "marks", None, 12, "mark"), None, "lost")
        self.gives(relay, (12, "close", None, 12, "open"), None, "waits")
        self.gives(relay, (5, "close", None, 12, "shut"), None)

    def test_nothing_of_a_told_body_is_sent_on(self):
        for hold in (None, 0, 4, 9, 12):
            for over in ("stream", "trim"):
                self.gives({"limit": 9, "hold": hold, "over": over}, (12, "length", 12, 12, "open"), None, "lost")
                self.gives({"limit": 9, "hold": hold, "over": over}, (12, "length", 12, 5, "shut"), None)

    def test_the_hold_below_at_and_above_the_limit(self):
        sending = (12, "marks", None, 12, "mark")
        self.gives({"limit": 9, "hold": 8}, sending, (12, "marks", None, 9, "shut"))
        self.gives({"limit": 9, "hold": 9}, sending, None, "lost")
        self.gives({"limit": 9, "hold": 10}, sending, None, "lost")
        self.gives({"limit": 9, "hold": 0}, sending, (12, "marks", None, 9, "shut"))
        self.gives({"limit": 9, "hold": 8, "over": "trim"}, sending, (12, "length", 8, 8, "open"))
        self.gives({"limit": 9, "hold": 9, "over": "trim"}, sending, None, "lost")
        self.gives({"limit": 0, "hold": 0}, sending, None, "lost")
        self.gives({"limit": 1, "hold": 0}, sending, (12, "marks", None, 1, "shut"))

    def test_what_a_refused_body_is_streamed_as(self):
        for end in ("mark", "open", "shut"):
            sending = (20, "marks", None, 12, end)
            for cut in ("pass", "whole", "refuse"):
                relay = {"limit": 9, "hold": 4, "cut": cut}
                self.gives(relay, sending, (20, "marks", None, 9, "shut"))
                self.gives({**relay, "stream": "marks"}, sending, (20, "marks", None, 9, "shut"))
                self.gives({**relay, "stream": "close"}, sending, (20, "close", None, 9, "shut"))
        for end in ("open", "shut"):
            sending = (20, "close", None, 12, end)
            self.gives({"limit": 9, "hold": 4}, sending, (20, "close", None, 9, "shut"))
            self.gives({"limit": 9, "hold": 4, "stream": "marks"}, sending, (20, "marks", None, 9, "shut"))

    def test_what_a_refused_body_is_trimmed_to(self):
        relay = {"limit": 9, "hold": 4, "over": "trim"}
        for sending in [(20, "marks", None, 12, "shut"), (20, "marks", None, 12, "open"), (20, "close", None, 12, "shut")]:
            self.gives(relay, sending, (20, "length", 4, 4, "open"))
            self.gives({**relay, "whole": "marks"}, sending, (20, "marks", None, 4, "mark"))
            self.gives({**relay, "whole": "close", "stream": "marks"}, sending, (20, "close", None, 4, "shut"))

    def test_a_refused_body_that_is_sent_on_has_its_troubles_but_lost(self):
        for over, out in (("stream", (12, "marks", None, 9, "shut")), ("trim", (12, "length", 4, 4, "open"))):
            relay = {"limit": 9, "hold": 4, "over": over}
            self.gives(relay, (12, "marks", None, 12, "mark"), out)
            self.gives({**relay, "rest": "leave"}, (12, "marks", None, 12, "mark"), out, "spills")
            self.gives({**relay, "rest": "leave"}, (12, "marks", None, 12, "shut"), out)
            self.gives({**relay, "rest": "drain"}, (12, "marks", None, 12, "open"), out, "waits")
            self.gives({**relay, "rest": "drain"}, (12, "marks", None, 12, "mark"), out)


class HeldBodies(Cases):
    """Rules 3 and 4: bodies that are not long."""

    def test_a_whole_one(self):
        for hold in (None, 5, 6):
            for sending in [(5, "length", 5, 5, "open"), (5, "length", 5, 5, "shut"), (5, "marks", None, 5, "mark"),
                            (5, "close", None, 5, "shut")]:
                for cut in ("pass", "whole", "refuse"):
                    relay = {"hold": hold, "cut": cut, "over": "trim", "stream": "close"}
                    self.gives(relay, sending, (5, "length", 5, 5, "open"))
                    self.gives({**relay, "whole": "marks"}, sending, (5, "marks", None, 5, "mark"))
                    self.gives({**relay, "whole": "close"}, sending, (5, "close", None, 5, "shut"))

    def test_a_whole_one_of_another_length_than_meant(self):
        for meant in (0, 2, 9, LARGE):
            self.gives({}, (meant, "marks", None, 3, "mark"), (meant, "length", 3, 3, "open"), "fooled")
            self.gives({"whole": "close"}, (meant, "close", None, 3, "shut"), (meant, "close", None, 3, "shut"), "fooled")

    def test_a_cut_one_that_is_passed(self):
        for hold in (None, 3, 4):
            self.gives({"hold": hold}, (5, "length", 4, 3, "shut"), (5, "length", 4, 3, "shut"))
            self.gives({"hold": hold}, (5, "marks", None, 3, "shut"), (5, "marks", None, 3, "shut"))
            self.gives({"hold": hold, "stream": "marks"}, (5, "length", 4, 3, "shut"), (5, "marks", None, 3, "shut"))
            self.gives({"hold": hold, "stream": "close"}, (5, "length", 4, 3, "shut"), (5, "close", None, 3, "shut"))
            self.gives({"hold": hold, "stream": "close"}, (5, "marks", None, 3, "shut"), (5, "close", None, 3, "shut"))

    def test_a_cut_one_that_is_ended_as_a_whole_one(self):
        for sending in [(5, "length", 5, 3, "shut"), (5, "marks", None, 3, "shut")]:
            relay = {"cut": "whole", "stream": "close"}
            self.gives(relay, sending, (5, "length", 3, 3, "open"))
            self.gives({**relay, "whole": "marks"}, sending, (5, "marks", None, 3, "mark"))
            self.gives({**relay, "whole": "close"}, sending, (5, "close", None, 3, "shut"))

    def test_a_cut_one_that_is_refused(self):
        self.gives({"cut": "refuse"}, (5, "length", 5, 3, "shut"), None)
        self.gives({"cut": "refuse", "hold": 3}, (5, "length", 5, 3, "shut"), None)
        # It is not lost, though as much came as was meant: it is not read as whole.
        self.gives({"cut": "refuse"}, (3, "length", 5, 3, "shut"), None)
        self.gives({"cut": "refuse"}, (3, "marks", None, 3, "shut"), None)

    def test_one_that_waits(self):
        for settings in ({}, {"hold": 3}, {"cut": "whole"}, {"hold": 9, "over": "trim"}):
            self.gives(settings, (5, "length", 5, 3, "open"), None, "waits")
            self.gives(settings, (3, "marks", None, 3, "open"), None, "waits")
            self.gives(settings, (3, "close", None, 3, "open"), None, "waits")


class LongBodies(Cases):
    """Rules 3 and 5: bodies that are long."""

    def test_trimmed(self):
        for sending, troubles in [((5, "length", 5, 5, "open"), ()), ((5, "length", 7, 5, "shut"), ()),
                                  ((5, "length", 7, 5, "open"), ("waits",)), ((6, "marks", None, 5, "mark"), ("fooled",)),
                                  ((5, "marks", None, 5, "open"), ("waits",)), ((6, "close", None, 5, "shut"), ("fooled",))]:
            meant = sending[0]
            for cut in ("pass", "whole", "refuse"):
                relay = {"hold": 3, "over": "trim", "cut": cut}
                self.gives(relay, sending, (meant, "length", 3, 3, "open"), *troubles)
                self.gives({**relay, "whole": "marks"}, sending, (meant, "marks", None, 3, "mark"), *troubles)
                self.gives({**relay, "whole": "close"}, sending, (meant, "close", None, 3, "shut"), *troubles)
        self.gives({"hold": 0, "over": "trim"}, (1, "length", 1, 1, "open"), (1, "length", 0, 0, "open"))

    def test_around_the_hold(self):
        relay = {"hold": 4, "stream": "marks", "whole": "close"}
        self.gives(relay, (4, "length", 4, 4, "open"), (4, "close", None, 4, "shut"))
        self.gives(relay, (5, "length", 5, 5, "open"), (5, "marks", None, 5, "mark"))
        self.gives(relay, (3, "length", 3, 3, "open"), (3, "close", None, 3, "shut"))
        self.gives(relay, (LARGE, "length", LARGE, LARGE, "open"), (LARGE, "marks", None, LARGE, "mark"))
        self.gives({"hold": 0, "stream": "marks"}, (0, "length", 0, 0, "open"), (0, "length", 0, 0, "open"))
        self.gives({"hold": 0, "stream": "marks"}, (1, "length", 1, 1, "open"), (1, "marks", None, 1, "mark"))

    def test_the_units_that_come_count_and_not_the_told_ones(self):
        self.gives({"hold": 4}, (9, "length", 9, 4, "open"), None, "waits")
        self.gives({"hold": 4}, (9, "length", 9, 5, "open"), (9, "length", 9, 5, "open"), "waits")

    def test_a_whole_one_is_streamed(self):
        for cut in ("pass", "whole", "refuse"):
            for sending in [(5, "length", 5, 5, "open"), (5, "length", 5, 5, "shut")]:
                self.gives({"hold": 0, "cut": cut}, sending, (5, "length", 5, 5, "open"))
                self.gives({"hold": 0, "cut": cut, "stream": "marks"}, sending, (5, "marks", None, 5, "mark"))
                self.gives({"hold": 0, "cut": cut, "stream": "close"}, sending, (5, "close", None, 5, "shut"))
            self.gives({"hold": 0, "cut": cut}, (5, "marks", None, 5, "mark"), (5, "marks", None, 5, "mark"))
            self.gives({"hold": 0, "cut": cut}, (5, "close", None, 5, "shut"), (5, "close", None, 5, "shut"))
            self.gives({"hold": 0, "stream": "close"}, (6, "marks", None, 5, "mark"), (6, "close", None, 5, "shut"),
                       "fooled")

    def test_a_cut_one_is_streamed(self):
        for cut in ("pass", "refuse"):
            relay = {"hold": 0, "cut": cut}
            self.gives(relay, (5, "length", 5, 3, "shut"), (5, "length", 5, 3, "shut"))
            self.gives(relay, (5, "marks", None, 3, "shut"), (5, "marks", None, 3, "shut"))
            self.gives({**relay, "stream": "marks"}, (5, "length", 5, 3, "shut"), (5, "marks", None, 3, "shut"))
            self.gives({**relay, "stream": "close"}, (5, "length", 5, 3, "shut"), (5, "close", None, 3, "shut"))

    def test_a_cut_one_is_streamed_and_ended_as_a_whole_one(self):
        relay = {"hold": 0, "cut": "whole"}
        self.gives(relay, (5, "length", 5, 3, "shut"), (5, "length", 5, 3, "open"))
        self.gives(relay, (5, "marks", None, 3, "shut"), (5, "marks", None, 3, "mark"))
        self.gives({**relay, "stream": "marks"}, (5, "length", 5, 3, "shut"), (5, "marks", None, 3, "mark"))
        self.gives({**relay, "stream": "close"}, (5, "length", 5, 3, "shut"), (5, "close", None, 3, "shut"))

    def test_one_that_waits_is_streamed(self):
        for cut in ("pass", "whole", "refuse"):
            relay = {"hold": 0, "cut": cut}
            self.gives(relay, (5, "length", 5, 3, "open"), (5, "length", 5, 3, "open"), "waits")
            self.gives(relay, (5, "marks", None, 3, "open"), (5, "marks", None, 3, "open"), "waits")
            self.gives(relay, (3, "close", None, 3, "open"), (3, "close", None, 3, "open"), "waits")
            self.gives({**relay, "stream": "marks"}, (5, "length", 5, 3, "open"), (5, "marks", None, 3, "open"), "waits")
            self.gives({**relay, "stream": "close"}, (5, "marks", None, 3, "open"), (5, "close", None, 3, "open"), "waits")

    def test_the_limit_refuses_what_is_above_it_alone(self):
        relay = {"hold": 4, "limit": 9}
        self.gives(relay, (9, "marks", None, 9, "mark"), (9, "marks", None, 9, "mark"))
        self.gives(relay, (9, "length", 9, 7, "shut"), (9, "length", 9, 7, "shut"))
        self.gives({"hold": 12, "limit": 9}, (9, "marks", None, 9, "mark"), (9, "length", 9, 9, "open"))
        self.gives({"hold": 9, "limit": 9}, (9, "marks", None, 9, "mark"), (9, "length", 9, 9, "open"))


class AllRelays(unittest.TestCase):
    def test_each_relay_and_each_small_sending(self):
        sendings = right_sendings(4)
        for relay in all_relays([None, 0, 2, 3], [None, 0, 2, 3]):
            for sending in sendings:
                if led(relay, sending) != model_relayed(relay, sending):
                    self.fail(f"{relay}, {sending}: {led(relay, sending)}, not {model_relayed(relay, sending)}")

    def test_relayed_answers_as_led(self):
        sendings = right_sendings(3)[::3]
        for relay in all_relays([None, 1], [2])[::3]:
            for sending in sendings:
                self.assertEqual(relayed(relay, sending), model_relayed(relay, sending))

    def test_large_numbers(self):
        numbers = [0, 1, 10 ** 9 - 1, 10 ** 9, 10 ** 9 + 1, LARGE - 1, LARGE]
        sendings = [(meant, way, None, units, end) for meant in numbers for units in numbers
                    for way, end in (("marks", "mark"), ("marks", "open"), ("close", "shut"))]
        sendings += [(meant, "length", told, units, "open") for meant in numbers for units in numbers
                     for told in numbers if units <= told]
        for relay in all_relays([10 ** 9], [10 ** 9, 10 ** 9 - 1])[::11]:
            for sending in sendings:
                self.assertEqual(relayed(relay, sending), model_relayed(relay, sending))


class Errors(unittest.TestCase):
    SENDING = (5, "length", 5, 3, "open")

    def test_no_relay(self):
        for thing in NOTHINGS + [None, list(PLAIN), PLAIN[:7], PLAIN + ("shut",), relay_of(hold=-1), relay_of(limit=True)]:
            for sending in (self.SENDING, None, list(self.SENDING), deep(5)):
                with self.subTest(thing=thing), self.assertRaises(NoRelay) as caught:
                    relayed(thing, sending)
                self.assertEqual(caught.exception.place, 0)

    def test_no_sending(self):
        things = NOTHINGS + [None, list(self.SENDING), self.SENDING[:4], (5, "length", 2, 3, "open"), PLAIN,
                             (True, "close", None, 1, "shut"), (5, "close", 5, 5, "shut"), (5, "close", None, 5, "mark")]
        for thing in things:
            with self.subTest(thing=thing), self.assertRaises(NoSending):
                relayed(PLAIN, thing)

    def test_what_is_passed_stays(self):
        things = [([1], "a"), [4, ["b"], {"c": [1]}], {"a": [[]]}, ["length"]]
        before = copy.deepcopy(things)
        for thing in things:
            for call in (lambda: relayed(thing, self.SENDING), lambda: relayed(PLAIN, thing), lambda: made(hold=thing)):
                with self.assertRaises((NoRelay, NoSending)):
                    call()
            is_relay(thing)
        self.assertEqual(things, before)

    def test_the_kinds_of_what_is_returned(self):
        for sending in right_sendings(2):
            pair = relayed(relay_of(limit=1, rest="leave"), sending)
            self.assertIs(type(pair), tuple)
            self.assertIs(type(pair[1]), tuple)


if __name__ == "__main__":
    unittest.main()
