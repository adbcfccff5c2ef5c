"""Points 2 and 17: what integers and names are."""

import unittest

from cutrelays.names import is_count, is_integer, is_name

LETTERS = "abcdefghijklmnopqrstuvwxyz"
DIGITS = "0123456789"
NESTED = 1
for _ in range(10):
    NESTED = [(NESTED,)]
NO_NUMBERS = [True, False, None, "", "1", "a", (), (1,), [], [1], {}, {1: 1}, {"a": 1}, NESTED, [0] * 100000]


class Integers(unittest.TestCase):
    def test_integers(self):
        for thing in (0, 1, -1, 2, -2, 10 ** 12, -10 ** 12, 10 ** 40, -10 ** 40):
            with self.subTest(thing=thing):
                self.assertIs(is_integer(thing), True)
                self.assertIs(is_count(thing), thing >= 0)

    def test_other_objects(self):
        for place, thing in enumerate(NO_NUMBERS):
            with self.subTest(place=place):
                self.assertIs(is_integer(thing), False)
                self.assertIs(is_count(thing), False)


class Names(unittest.TestCase):
    def right(self, word):
        with self.subTest(word=word):
            self.assertIs(is_name(word), True)

    def wrong(self, thing):
        with self.subTest(thing=thing):
            self.assertIs(is_name(thing), False)

    def test_lengths(self):
        self.wrong("")
        self.wrong("a" * 9)
        self.wrong("a" * 5000)
        for length in range(1, 9):
            self.right("abcdefgh"[:length])
            self.right("a1234567"[:length])

    def test_each_sign_first(self):
        for sign in LETTERS:
            self.right(sign)
            self.right(sign + "0")
        for sign in DIGITS:
            self.wrong(sign)
            self.wrong(sign + "a")

    def test_each_sign_behind_the_first(self):
        for sign in LETTERS + DIGITS:
            for place in range(1, 8):
                self.right(("a" * place + sign).ljust(8, "z"))

    def test_every_other_sign_at_any_place(self):
        signs = [chr(code) for code in range(32, 127)] + ["\n", "\t"]
        for sign in signs:
            if sign not in LETTERS + DIGITS:
                self.wrong(sign)
                for length in range(2, 9):
                    for place in range(length):
                        word = "abcdefgh"[:length]
                        self.wrong(word[:place] + sign + word[place + 1:])

    def test_signs_beyond_ascii(self):
        for sign in ("\u00e9", "\u00df", "\u0663", "\u00b2", "\uff41", "\u03b1"):
            self.wrong(sign)
            self.wrong("a" + sign)

    def test_a_blank_or_newline_at_an_end(self):
        for sign in (" ", "\n", "\t"):
            self.wrong("abc" + sign)
            self.wrong(sign + "abc")

    def test_other_objects(self):
        for thing in (0, 1, -1, True, False, None, (), ("a",), [], ["a"], {}, {"a": "a"}, list("abc"), tuple("abc")):
            self.wrong(thing)
        self.assertIs(is_name(NESTED), False)
        self.assertIs(is_name(["a"] * 100000), False)


if __name__ == "__main__":
    unittest.main()
