"""Points 2, 3, 4 and the first sentence of point 6: sendings and their readings."""

import copy
import itertools
import unittest

from cutrelays.sendings import is_sending, ordered, reading, troubles, whole_sending
from tools import ENDS_OF, deep, right_sendings

WRONG_ANYWHERE = [True, False, -1, -10 ** 12, "", "a", "0", [], {}, (), (1,), ["length"], {"open": 1}, deep(19)]


class IsSending(unittest.TestCase):
    def wrong(self, thing):
        with self.subTest(thing=thing):
            self.assertIs(is_sending(thing), False)

    def test_right_sendings(self):
        for sending in right_sendings(3):
            with self.subTest(sending=sending):
                self.assertIs(is_sending(sending), True)

    def test_large_values(self):
        self.assertIs(is_sending((10 ** 12, "length", 10 ** 12, 10 ** 12, "open")), True)
        self.assertIs(is_sending((0, "close", None, 10 ** 12, "shut")), True)
        self.assertIs(is_sending((0, "length", 10 ** 12 - 1, 10 ** 12, "shut")), False)

    def test_told_may_be_units_but_not_less(self):
        self.assertIs(is_sending((5, "length", 3, 3, "open")), True)
        self.assertIs(is_sending((5, "length", 3, 4, "open")), False)
        self.assertIs(is_sending((5, "length", 2, 3, "shut")), False)

    def test_meant_does_not_bind_units_or_told(self):
        self.assertIs(is_sending((0, "length", 7, 5, "open")), True)
        self.assertIs(is_sending((9, "length", 7, 5, "open")), True)
        self.assertIs(is_sending((0, "marks", None, 5, "mark")), True)

    def test_a_grid_of_right_and_wrong_values(self):
        right = {repr(sending) for sending in right_sendings(1)}
        counts = [-1, 0, 1, True, False, None, "1"]
        words = ["length", "marks", "close", "mark", "open", "shut", "whole", "same", "", None, 0]
        seen = 0
        for thing in itertools.product(counts, words, counts, counts, words):
            # repr tells 1 from True, which == does not.
            expected = repr(thing) in right
            seen += expected
            if is_sending(thing) is not expected:
                self.fail(f"{thing} gives {is_sending(thing)}")
        self.assertEqual(seen, len(right))

    def test_wrong_things_in_each_place(self):
        for sending in right_sendings(1):
            for place in range(5):
                for thing in WRONG_ANYWHERE:
                    self.wrong(sending[:place] + (thing,) + sending[place + 1:])
                if place != 2:
                    self.wrong(sending[:place] + (None,) + sending[place + 1:])

    def test_told_where_the_way_has_none(self):
        for way in ("marks", "close"):
            for told in (0, 3, 4, 5, 9):
                self.wrong((5, way, told, 4, "shut"))
                self.wrong((5, way, told, 4, "open"))
        self.wrong((5, "marks", 4, 4, "mark"))

    def test_no_told_where_the_way_has_it(self):
        for units in (0, 4, 5):
            self.wrong((5, "length", None, units, "open"))
            self.wrong((5, "length", None, units, "shut"))

    def test_a_mark_with_another_way(self):
        self.wrong((5, "length", 5, 5, "mark"))
        self.wrong((5, "close", None, 5, "mark"))
        self.wrong((5, "length", 5, 3, "mark"))

    def test_words_that_are_no_way_or_no_end(self):
        for word in ("Length", "length ", "lengths", "mark", "open", "shut", "pass", "l", "len"):
            self.wrong((5, word, 5, 5, "open"))
            self.wrong((5, word, None, 5, "shut"))
        for word in ("Open", "open\n", "shu", "marks", "close", "none", "cut", "o"):
            self.wrong((5, "marks", None, 5, word))
            self.wrong((5, "length", 5, 5, word))

    def test_other_lengths_of_the_tuple(self):
        for sending in right_sendings(1):
            for length in range(5):
                self.wrong(sending[:length])
            self.wrong(sending + (None,))
            self.wrong(sending + sending)
            self.wrong((sending,))

    def test_a_list_in_the_place_of_the_tuple(self):
        for sending in right_sendings(1):
            self.wrong(list(sending))
            self.wrong(dict(enumerate(sending)))

    def test_objects_that_are_no_tuples(self):
        for thing in (None, True, False, 0, -1, 10 ** 40, "", "abcde", [], {}, deep(20), "5 length 5 5 open"):
            self.wrong(thing)
        self.assertIs(is_sending([0] * 100000), False)
        self.assertIs(is_sending((0,) * 100000), False)

    def test_the_thing_stays_as_it_is(self):
        thing = (5, ["length"], {"a": [1]}, [3], ["open"])
        before = copy.deepcopy(thing)
        is_sending(thing)
        self.assertEqual(thing, before)


# (way, told, end), with the word of the reading for 4 units.
FORMS = [
    ("length", 4, "open", "whole"), ("length", 4, "shut", "whole"),
    ("length", 5, "open", "waits"), ("length", 5, "shut", "cut"),
    ("length", 10 ** 12, "open", "waits"), ("length", 10 ** 12, "shut", "cut"),
    ("marks", None, "mark", "whole"), ("marks", None, "open", "waits"), ("marks", None, "shut", "cut"),
    ("close", None, "open", "waits"), ("close", None, "shut", "whole"),
]


class Readings(unittest.TestCase):
    def test_each_form(self):
        for way, told, end, word in FORMS:
            for meant in (0, 3, 4, 5, 10 ** 12):
                sending = (meant, way, told, 4, end)
                with self.subTest(sending=sending):
                    self.assertIs(is_sending(sending), True)
                    self.assertEqual(reading(sending), (word, 4))

    def test_troubles_of_each_form(self):
        for way, told, end, word in FORMS:
            for meant in (0, 3, 4, 5, 10 ** 12):
                expected = ("waits",) if word == "waits" else ()
                if word == "whole" and meant != 4:
                    expected = ("fooled",)
                sending = (meant, way, told, 4, end)
                with self.subTest(sending=sending):
                    self.assertEqual(troubles(sending), expected)

    def test_units_and_told_of_0(self):
        self.assertEqual(reading((0, "length", 0, 0, "open")), ("whole", 0))
        self.assertEqual(reading((3, "length", 0, 0, "shut")), ("whole", 0))
        self.assertEqual(reading((0, "length", 1, 0, "open")), ("waits", 0))
        self.assertEqual(reading((0, "length", 1, 0, "shut")), ("cut", 0))
        self.assertEqual(troubles((3, "length", 0, 0, "shut")), ("fooled",))
        self.assertEqual(troubles((0, "length", 0, 0, "open")), ())
        self.assertEqual(troubles((0, "close", None, 0, "open")), ("waits",))


class WholeSendings(unittest.TestCase):
    def test_each_way(self):
        for meant in (0, 3, 4, 5, 10 ** 12):
            for body in (0, 4, 10 ** 12):
                with self.subTest(meant=meant, body=body):
                    self.assertEqual(whole_sending(meant, "length", body), (meant, "length", body, body, "open"))
                    self.assertEqual(whole_sending(meant, "marks", body), (meant, "marks", None, body, "mark"))
                    self.assertEqual(whole_sending(meant, "close", body), (meant, "close", None, body, "shut"))

    def test_it_is_read_as_the_whole_body(self):
        for way, meant, body in itertools.product(ENDS_OF, range(4), range(4)):
            sending = whole_sending(meant, way, body)
            with self.subTest(sending=sending):
                self.assertIs(is_sending(sending), True)
                self.assertEqual(reading(sending), ("whole", body))
                self.assertEqual(troubles(sending), () if body == meant else ("fooled",))


class Order(unittest.TestCase):
    def ascending(self, *sendings):
        """Check that sendings, in any order, are put into the one in which they are given."""
        for some in itertools.permutations(sendings):
            with self.subTest(some=some):
                self.assertEqual(ordered(list(some)), list(sendings))

    def test_meant_alone(self):
        self.ascending(*[(meant, "marks", None, 3, "open") for meant in (2, 9, 10, 100)])

    def test_units_alone(self):
        self.ascending(*[(5, "length", 100, units, "open") for units in (2, 9, 10, 100)])

    def test_way_alone(self):
        self.ascending((5, "marks", None, 3, "shut"), (5, "close", None, 3, "shut"))
        self.ascending((5, "length", 3, 3, "shut"), (5, "marks", None, 3, "shut"), (5, "close", None, 3, "shut"))

    def test_told_alone(self):
        self.ascending(*[(5, "length", told, 2, "shut") for told in (2, 9, 10, 100)])

    def test_end_alone(self):
        self.ascending(*[(5, "marks", None, 3, end) for end in ("mark", "open", "shut")])
        self.ascending((5, "length", 4, 3, "open"), (5, "length", 4, 3, "shut"))
        self.ascending((5, "close", None, 3, "open"), (5, "close", None, 3, "shut"))

    def test_an_earlier_part_counts_before_the_later_ones(self):
        self.ascending((4, "close", None, 9, "shut"), (5, "length", 3, 3, "open"))
        self.ascending((5, "close", None, 3, "shut"), (5, "length", 4, 4, "open"))
        self.ascending((5, "length", 9, 3, "shut"), (5, "marks", None, 3, "mark"))
        self.ascending((5, "marks", None, 3, "shut"), (5, "close", None, 3, "open"))
        self.ascending((5, "length", 3, 3, "shut"), (5, "length", 4, 3, "open"))

    def test_all_small_sendings(self):
        right = right_sendings(2)
        for some in (right[::-1], right[::2] + right[1::2], sorted(right, key=repr), list(right)):
            self.assertEqual(ordered(some), right)

    def test_some_twice(self):
        one, other = (5, "length", 3, 3, "open"), (5, "marks", None, 3, "mark")
        self.assertEqual(ordered([other, one, other, one, one]), [one, one, one, other, other])

    def test_none_and_one(self):
        self.assertEqual(ordered([]), [])
        self.assertEqual(ordered([(5, "close", None, 3, "open")]), [(5, "close", None, 3, "open")])

    def test_the_list_stays_as_it_is_and_another_is_returned(self):
        for some in (right_sendings(1)[::-1], right_sendings(1), [], [(5, "close", None, 3, "open")]):
            before = list(some)
            found = ordered(some)
            self.assertIsInstance(found, list)
            self.assertIsNot(found, some)
            self.assertEqual(some, before)
            found.append(None)
            self.assertEqual(some, before)


if __name__ == "__main__":
    unittest.main()
