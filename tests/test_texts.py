"""Points 18 and 19: tokens, texts of relays, sendings, senders and events, and canonical texts."""

import itertools
import random
import re
import string
import unittest

from cutrelays.errors import SyntaxProblem
from cutrelays.texts import (
    format_events, format_relay, format_senders, format_sending, parse_events, parse_relay, parse_senders, parse_sending,
)
from tools import ENDS_OF, PLAIN, SETTINGS, WAYS, WORDS_OF, random_relay, relay_of, right_sendings

PARSERS = [parse_relay, parse_sending, parse_senders, parse_events]
BREAKS = ["none", "shut", "open"]
GREAT = 9999999999999
SOME_EVENTS = [("head", "length", 0), ("head", "length", GREAT), ("head", "marks", None), ("head", "close", None), ("units", 1),
               ("units", 70), ("mark",), ("shut",), ("time",)]


class TextCase(unittest.TestCase):
    def wrong(self, parse, text, column):
        with self.subTest(parse=parse, text=text):
            with self.assertRaises(SyntaxProblem) as caught:
                parse(text)
            self.assertEqual([caught.exception.line, caught.exception.column], [1, column])

    def marked(self, parse, text):
        """Check that a text with a mark, ^, ahead of the place where it is wrong is refused there."""
        self.assertEqual(text.count("^"), 1)
        self.wrong(parse, text.replace("^", ""), text.index("^") + 1)


class Tokens(TextCase):
    def test_rows_that_are_no_tokens(self):
        for parse in PARSERS:
            for row in ["abcdefghi", "a1", "1a", "hold4", "4hold", "00", "01", "007", "12345678901234", "0a", "a0", "x" * 500,
                        "1" * 5000]:
                self.wrong(parse, row, 1)
                self.wrong(parse, f" \t{row}", 3)
                self.wrong(parse, f"{row} , 5", 1)
            for sign in string.printable:
                if sign not in string.ascii_lowercase + string.digits + ", \t":
                    self.wrong(parse, sign, 1)
                    self.wrong(parse, f"  {sign}5", 3)
                    self.wrong(parse, f"5{sign}", 2)
                    self.wrong(parse, f"zz{sign}zz", 3)

    def test_what_is_no_token_is_told_ahead_of_a_wrong_token_before_it(self):
        for parse in PARSERS:
            self.wrong(parse, ", , wrong hold 00", 16)
            self.wrong(parse, "zzz 5 5 5 abcdefghi", 11)
            self.wrong(parse, "zzz\n", 4)
            self.wrong(parse, ",,,-", 4)
            self.wrong(parse, ", a1 b2", 3)

    def test_longest_tokens(self):
        self.assertEqual(parse_relay(f"limit {GREAT}"), relay_of(limit=GREAT))
        self.wrong(parse_relay, f"limit 1{GREAT}", 7)
        # Eight letters are a word, though no text has this one here.
        self.wrong(parse_relay, "limit abcdefgh", 7)
        self.wrong(parse_relay, "over trim , abcdefgh abcdefghi", 22)

    def test_upper_case_ends_a_row(self):
        self.wrong(parse_relay, "holD 4", 4)
        self.wrong(parse_relay, "Hold 4", 1)

    def test_no_text_and_blanks_alone(self):
        for parse in PARSERS:
            for text in ["", " ", "\t", "  ", " \t \t "]:
                self.wrong(parse, text, len(text) + 1)

    def test_too_early_is_behind_the_last_character(self):
        self.wrong(parse_relay, "hold", 5)
        self.wrong(parse_relay, "hold  ", 7)
        self.wrong(parse_relay, "hold 4,", 8)
        self.wrong(parse_relay, "hold 4 , \t", 11)


class Relays(TextCase):
    def test_each_setting_alone(self):
        for name, words in WORDS_OF.items():
            for word in words:
                self.assertEqual(parse_relay(f"{name} {word}"), relay_of(**{name: word}))
        for size in (0, 1, 9, 10, 10 ** 9, GREAT):
            self.assertEqual(parse_relay(f"hold {size}"), relay_of(hold=size))
            self.assertEqual(parse_relay(f"limit {size}"), relay_of(limit=size))
        self.assertEqual(parse_relay("hold all"), PLAIN)
        self.assertEqual(parse_relay("limit none"), PLAIN)

    def test_several_in_any_order(self):
        chance = random.Random(291)
        for _ in range(500):
            relay = random_relay(chance, [None, 0, 7, 120])
            told = list(zip(SETTINGS, relay))
            some = chance.sample(told, chance.randrange(1, 9))
            texts = [f"{name} {self.word(name, value)}" for name, value in some]
            self.assertEqual(parse_relay(chance.choice([",", ", ", " , ", "\t,"]).join(texts)), relay_of(**dict(some)))

    def word(self, name, value):
        return {"hold": "all", "limit": "none"}[name] if value is None else value

    def test_all_of_them_in_all_orders_of_four(self):
        settings = {"hold": 3, "over": "trim", "whole": "close", "stream": "marks", "cut": "refuse", "wait": "cut", "limit": 5,
                    "rest": "leave"}
        rest = ", ".join(f"{name} {settings[name]}" for name in SETTINGS[4:])
        for order in itertools.permutations(SETTINGS[:4]):
            text = ", ".join(f"{name} {settings[name]}" for name in order)
            self.assertEqual(parse_relay(f"{text}, {rest}"), tuple(settings[name] for name in SETTINGS))
            self.assertEqual(parse_relay(f"{rest}, {text}"), tuple(settings[name] for name in SETTINGS))

    def test_blanks(self):
        for text in ["hold 4,cut whole", " hold 4,cut whole", "hold\t4 , cut whole ", "\t\thold   4,\tcut \t whole\t "]:
            self.assertEqual(parse_relay(text), relay_of(hold=4, cut="whole"))
        self.assertEqual(parse_relay("hold 4,cut whole"), relay_of(hold=4, cut="whole"))

    def test_a_setting_twice(self):
        for name in SETTINGS:
            word = {"hold": "4", "limit": "none"}.get(name) or WORDS_OF[name][0]
            self.marked(parse_relay, f"{name} {word}, ^{name} {word}")
            if name != "cut":
                self.marked(parse_relay, f"{name} {word}, cut whole, ^{name} {word}")

    def test_a_comma_behind_all_sorts(self):
        full = format_relay(PLAIN)
        self.assertEqual(parse_relay(full), PLAIN)
        for text in [f"{full}^,", f"{full} ^,", f"{full}^, hold 4", f"{full} ^hold 4", f"{full} ^4", f"{full}^,,"]:
            self.marked(parse_relay, text)

    def test_words_of_another_setting(self):
        for name in SETTINGS:
            right = WORDS_OF.get(name, []) + {"hold": ["all"], "limit": ["none"]}.get(name, [])
            for word in ["all", "none", "stream", "trim", "length", "marks", "close", "same", "pass", "whole", "refuse", "wait",
                         "cut", "drain", "shut", "leave", "hold", "open", "mark", "x"]:
                if word not in right:
                    self.marked(parse_relay, f"{name} ^{word}")
            if name not in ("hold", "limit"):
                self.marked(parse_relay, f"{name} ^4")
                self.marked(parse_relay, f"{name} ^0, hold 4")

    def test_other_wrong_texts(self):
        for text in ["^4", "^,", "^all", "^holds 4", "^trim", "hold ^,", "hold^, cut whole", "hold 4 ^5", "hold 4 ^cut whole",
                     "hold 4,^, cut whole", "hold 4, ^4", "hold 4, ^all", "hold 4, cut whole ^whole", "hold 4, cut ^, whole",
                     "^, hold 4", "hold all ^4", "limit none ^5", "hold 4, limit ^all", "hold ^none", "hold^", "hold 4,^",
                     "hold 4, cut^", "hold 4, cut whole, ^"]:
            self.marked(parse_relay, text)

    def test_canonical(self):
        self.assertEqual(format_relay(PLAIN),
                         "hold all, over stream, whole length, stream same, cut pass, wait wait, limit none, rest shut")
        self.assertEqual(format_relay((0, "trim", "marks", "close", "refuse", "cut", 12, "leave")),
                         "hold 0, over trim, whole marks, stream close, cut refuse, wait cut, limit 12, rest leave")
        chance = random.Random(292)
        for _ in range(500):
            relay = random_relay(chance, [None, 0, 7, 10 ** 9])
            self.assertEqual(parse_relay(format_relay(relay)), relay)
            self.canonical(format_relay(relay))

    def canonical(self, text):
        self.assertRegex(text, r"\A[a-z]+ [a-z0-9]+(, [a-z]+ [a-z0-9]+){7}\Z")


class Sendings(TextCase):
    def test_each_way_and_end(self):
        for way, ends in ENDS_OF.items():
            for end in ends:
                told = 9 if way == "length" else None
                text = f"5 length 9 3 {end}" if told else f"5 {way} 3 {end}"
                self.assertEqual(parse_sending(text), (5, way, told, 3, end))
                self.assertEqual(format_sending((5, way, told, 3, end)), text)

    def test_all_small_ones(self):
        for sending in right_sendings(4):
            text = format_sending(sending)
            self.assertEqual(text, " ".join(str(part) for part in sending if part is not None))
            self.assertEqual(parse_sending(text), sending)
            self.assertEqual(parse_sending(f"\t{text.replace(' ', '  ')} "), sending)

    def test_great_ones(self):
        sending = (GREAT, "length", GREAT, GREAT, "open")
        self.assertEqual(parse_sending(f"{GREAT} length {GREAT} {GREAT} open"), sending)
        self.assertEqual(format_sending((10 ** 12, "close", None, 10 ** 12, "shut")), "1000000000000 close 1000000000000 shut")

    def test_units_above_told(self):
        for text in ["5 length 2 ^3 open", "0 length 0 ^1 shut", "5 length 9 ^10 open", f"0 length 0 ^{GREAT}"]:
            self.marked(parse_sending, text)
        self.assertEqual(parse_sending("5 length 3 3 open"), (5, "length", 3, 3, "open"))

    def test_an_end_that_the_way_has_not(self):
        self.marked(parse_sending, "5 length 3 3 ^mark")
        self.marked(parse_sending, "5 close 3 ^mark")
        for end in ("none", "whole", "x", ",", "5"):
            for way in ("length 3", "marks", "close"):
                self.marked(parse_sending, f"5 {way} 3 ^{end}")

    def test_other_wrong_texts(self):
        for text in ["^length 3 3 open", "^,", "5 ^5", "5 ^, length", "5 ^open", "5 ^same", "5 length ^open", "5 length 3 ^open",
                     "5 length 3 ^, 3", "5 marks ^mark", "5 marks 3 3^".replace("3 3^", "3 ^3"), "5 close ^shut",
                     "5 close 3 shut ^,", "5 close 3 shut ^5", "5 close 3 shut ^shut", "^none", "5^", "5 length^", "5 length 3^",
                     "5 length 3 3^", "5 length 3 3 ^", "5 marks^", "5 marks 3^", "5 marks 3 \t^", "^mark", "5 length 3 3 open ^5"]:
            self.marked(parse_sending, text)


class Senders(TextCase):
    def test_each_one_and_several(self):
        every = list(itertools.product(WAYS, BREAKS))
        for way, stop in every:
            self.assertEqual(parse_senders(f"{way} {stop}"), [(way, stop)])
            self.assertEqual(format_senders([(way, stop)]), f"{way} {stop}")
        text = format_senders(every + every)
        self.assertEqual(text, ", ".join(f"{way} {stop}" for way, stop in every + every))
        self.assertEqual(parse_senders(text), every + every)
        self.assertEqual(parse_senders(" marks none ,length\tshut "), [("marks", "none"), ("length", "shut")])

    def test_their_own_order(self):
        some = [("marks", "none"), ("close", "open"), ("marks", "none"), ("length", "shut")]
        self.assertEqual(format_senders(some), "marks none, close open, marks none, length shut")
        self.assertEqual(parse_senders(format_senders(some)), some)

    def test_wrong_texts(self):
        for text in ["^none", "^shut none", "^4", "^,", "length ^length", "length ^mark", "length ^, none", "length ^4",
                     "length none ^none", "length none ^marks none", "length none,^, marks none", "length none, ^none",
                     "length none, ^4", "^same none", "length^", "length none,^", "length none, ^", "length none, marks^",
                     "^, length none", "length ^whole", "length none, marks open ^open"]:
            self.marked(parse_senders, text)


class Events(TextCase):
    def test_none(self):
        for text in ("none", " none", "none\t"):
            self.assertEqual(parse_events(text), [])
        self.assertEqual(format_events([]), "none")

    def test_each_one_and_several(self):
        texts = ["head length 0", f"head length {GREAT}", "head marks", "head close", "units 1", "units 70", "mark", "shut", "time"]
        for event, text in zip(SOME_EVENTS, texts):
            self.assertEqual(parse_events(text), [event])
            self.assertEqual(format_events([event]), text)
        self.assertEqual(parse_events(",".join(texts)), SOME_EVENTS)
        self.assertEqual(format_events(SOME_EVENTS), ", ".join(texts))

    def test_in_any_order_whatever_can_come_next(self):
        chance = random.Random(293)
        for _ in range(200):
            events = chance.choices(SOME_EVENTS, k=chance.randrange(1, 9))
            text = format_events(events)
            self.assertEqual(parse_events(text), events)
            self.assertEqual(parse_events(text.replace(",", " ,\t").replace(" ", "  ")), events)

    def test_units_0(self):
        self.marked(parse_events, "units ^0")
        self.marked(parse_events, "head marks, units 3, units ^0, mark")
        self.assertEqual(parse_events(f"units {GREAT}"), [("units", GREAT)])

    def test_none_among_events(self):
        for text in ["none ^, mark", "mark, ^none", "none ^none", "none ^mark", "mark ^none", "none^,", "mark, ^none, mark"]:
            self.marked(parse_events, text)

    def test_other_wrong_texts(self):
        for text in ["^4", "^,", "^length 5", "head ^5", "head ^, length", "head length ^, mark", "head length ^mark",
                     "head length 5 ^5", "head marks ^5", "head close ^0", "units ^, 5", "units ^mark", "mark ^mark", "mark,^, shut",
                     "shut ^5", "time ^time", "^open", "head ^same", "head^", "head length^", "units^", "mark,^", "mark, ^",
                     "head length 5, units^", "^cut", "^unit 5", "units 5 ^shut"]:
            self.marked(parse_events, text)


def tokens_of(text):
    """Return the tokens of a text with their columns, or the column of the first thing that is none, by a pattern."""
    found = []
    for match in re.finditer(r"[a-z0-9]+|[^ \t]", text):
        if not re.fullmatch(r"[a-z]{1,8}|0|[1-9][0-9]{0,12}|,", match.group()):
            return match.start() + 1
        found.append((match.group(), match.start() + 1))
    return found


class Grammar:
    """All beginnings of right texts up to some tokens: which token goes on behind which ones."""

    def __init__(self, steps, first):
        self.steps, self.first = steps, first

    def column(self, text):
        """Return the column at which a text is wrong, or None."""
        tokens = tokens_of(text)
        if isinstance(tokens, int):
            return tokens
        state = self.first
        for token, column in tokens:
            state = self.steps(state, token)
            if state is None:
                return column
        return None if self.steps(state, None) else len(text) + 1


def is_number(token):
    return token is not None and token.isdigit()


def relay_steps(state, token):
    """A state is (the sorts that were told, what comes next: a sort, the word of a sort, or a comma)."""
    told, wanted = state
    if token is None:
        return wanted == ","
    if wanted == "sort":
        return (told | {token}, token) if token in SETTINGS and token not in told else None
    if wanted == ",":
        return (told, "sort") if token == "," and len(told) < 8 else None
    right = token in WORDS_OF.get(wanted, []) or (wanted, token) in (("hold", "all"), ("limit", "none"))
    return (told, ",") if right or wanted in ("hold", "limit") and is_number(token) else None


def sending_steps(state, token):
    place, way, told = state
    row = {None: ["meant", "way"], "length": ["meant", "way", "told", "units", "end"]}.get(way, ["meant", "way", "units", "end"])
    if token is None:
        return way is not None and place == len(row)
    if way is not None and place == len(row):
        return None
    wanted = row[place]
    if wanted == "way":
        return (2, token, None) if token in WAYS else None
    if wanted == "end":
        return (place + 1, way, told) if token in ENDS_OF[way] else None
    if not is_number(token) or wanted == "units" and told is not None and int(token) > told:
        return None
    return (place + 1, way, int(token) if wanted == "told" else told)


def senders_steps(state, token):
    if token is None:
        return state == ","
    return {"way": "break" if token in WAYS else None, "break": "," if token in BREAKS else None,
            ",": "way" if token == "," else None}[state]


def events_steps(state, token):
    if token is None:
        return state in (",", "over")
    if state in ("first", "event"):
        table = {"head": "way", "units": "count", "mark": ",", "shut": ",", "time": ","}
        return "over" if token == "none" and state == "first" else table.get(token)
    if state == "way":
        return {"length": "told", "marks": ",", "close": ","}.get(token)
    if state == "told":
        return "," if is_number(token) else None
    if state == "count":
        return "," if is_number(token) and token != "0" else None
    return "event" if state == "," and token == "," else None


class ByChance(TextCase):
    GRAMMARS = {
        parse_relay: Grammar(relay_steps, (frozenset(), "sort")), parse_sending: Grammar(sending_steps, (0, None, None)),
        parse_senders: Grammar(senders_steps, "way"), parse_events: Grammar(events_steps, "first"),
    }

    def right_text(self, chance, parse):
        if parse is parse_relay:
            relay = random_relay(chance, [None, 0, 12])
            told = chance.sample(format_relay(relay).split(", "), chance.randrange(1, 9))
            return ", ".join(told)
        if parse is parse_sending:
            return format_sending(chance.choice(right_sendings(4)))
        if parse is parse_senders:
            return format_senders([(chance.choice(WAYS), chance.choice(BREAKS)) for _ in range(chance.randrange(1, 4))])
        return format_events(chance.choices(SOME_EVENTS, k=chance.randrange(4)))

    def changed(self, chance, text):
        """Return a text with something put in, taken out or put in the place of something."""
        parts = re.findall(r"[a-z0-9]+|.", text)
        for _ in range(chance.randrange(3)):
            at = chance.randrange(len(parts) + 1)
            new = chance.choice(["hold", "over", "none", "all", "length", "marks", "mark", "shut", "0", "1", "5", ",", ",", " ", "\t",
                                 "x", "a1", "B", ".", "units", "head", "open", "time", "cut", "whole", "wait"])
            parts[at:at + chance.randrange(3)] = [" ", new, " "][chance.randrange(2):2 + chance.randrange(2)]
        return "".join(parts)[chance.choice([0, 0, 0, 1]):]

    def test_where_changed_texts_are_wrong(self):
        chance, told = random.Random(294), {True: 0, False: 0}
        for parse, grammar in self.GRAMMARS.items():
            for _ in range(4000):
                text = self.changed(chance, self.right_text(chance, parse))
                column = grammar.column(text)
                told[column is None] += 1
                if column is None:
                    parse(text)
                else:
                    self.wrong(parse, text, column)
        self.assertGreater(min(told.values()), 2000)


if __name__ == "__main__":
    unittest.main()
