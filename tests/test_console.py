"""Point 20: the console."""

import random
import unittest

from cutrelays.chains import passed, read_behind, run_troubles
from cutrelays.console import Console
from cutrelays.errors import (
    InvalidCommand, Mismatch, NoEvent, NoLine, NoMark, NoName, RelayError, SyntaxProblem, TooMany, Unsafe,
)
from cutrelays.live import LiveChain, events_of
from cutrelays.net import Net
from cutrelays.tables import first_difference
from cutrelays.texts import format_events, format_relay, format_senders, format_sending
from tools import PLAIN, model_run, random_relay, relay_of, right_sendings

START = ["relay a : hold 0, stream marks", "relay b : cut whole", "chain ab : a b", "chain no : empty"]
WORDS = ["fooled", "lost", "spills", "waits"]


def begun(*lines):
    """Return a console behind the lines of START and some others."""
    console = Console()
    for line in START + list(lines):
        console.execute(line)
    return console


def shown(console):
    """Return what a console tells of its net."""
    names = console.execute("names")
    found = [names, console.execute("count")]
    return found + [console.execute(f"show {name}") for name in names.split(" ") if names != "nothing"]


class ConsoleCase(unittest.TestCase):
    def refused(self, error, console, command, /, **fields):
        before = shown(console)
        with self.subTest(command=command):
            with self.assertRaises(error) as caught:
                console.execute(command)
            self.assertIs(type(caught.exception), error)
            for name, value in fields.items():
                self.assertEqual(getattr(caught.exception, name), value)
            self.assertEqual(shown(console), before)

    def invalid(self, *lines, console=None):
        for line in lines:
            self.refused(InvalidCommand, console or begun(), line)

    def told(self, console, answers):
        for line, answer in answers.items():
            with self.subTest(line=line):
                self.assertEqual(console.execute(line), answer)


class Lines(ConsoleCase):
    def test_unknown_words(self):
        self.invalid("", " ", "x", "Names", "names2", "name", "relay", "help", "names\n", "names\t", "\tnames", "nothing", "ok",
                     "relays a : hold 4", "quit : x", "5", ":", " : ", "a : b", " : hold 4")

    def test_numbers_of_words(self):
        self.invalid("undo a", "redo a", "names a", "count a", "show", "show a b", "drop", "drop a b", "alike", "alike a",
                     "alike a b ab", "open", "open a b", "relay : hold 4", "relay a b : hold 4", "chain : a", "chain a b : a",
                     "guard : none", "guard lost waits : none", "run : 5 close 3 shut", "run a b : 5 close 3 shut", "bad : none",
                     "bad lost waits : none", "feed : none", "feed 0 0 : none", "read : 5 close 3 shut", "read a b : 5 close 3 shut",
                     "troubles : 5 close 3 shut", "troubles a b : 5 close 3 shut")

    def test_blanks_doubled_and_at_the_ends(self):
        self.invalid(" names", "names ", "  names", "show  a", " show a", "show a ", "alike a  b", "alike  a b", "undo ", "drop  a",
                     "relay  a : hold 4", " relay a : hold 4", "relay a  : hold 4", "chain  c : a", "run  ab : 5 close 3 shut",
                     "feed  0 : none", "bad  lost : none", "show ", "drop ", "open ", "alike a ", "relay  : hold 4", "count  ",
                     "names\t", "show\ta")

    def test_a_text_that_lacks(self):
        self.invalid("relay a", "chain a", "guard lost", "run ab", "troubles ab", "read ab", "bad lost", "feed 0", "relay a :",
                     "relay a: hold 4", "relay a :hold 4", "chain c :", "chain c :a", "guard none :", "run ab :5 close 3 shut",
                     "feed 0 :none", "bad none :none", "relay a hold 4", "chain c a b", "feed 0 none")

    def test_a_text_that_is_too_much(self):
        self.invalid("undo : ", "redo : x", "names : ", "count : 5", "show a : ", "show a : b", "drop a : ", "alike a b : ",
                     "open a : ", "open a : b", "names : names")

    def test_everything_behind_the_first_separator_is_the_text(self):
        console = begun()
        self.refused(SyntaxProblem, console, "relay a : hold 4 : 5", line=1, column=8)
        self.refused(SyntaxProblem, console, "relay a :  : 5", line=1, column=2)
        self.refused(NoName, console, "chain c : a : b")
        self.told(console, {"relay a :  hold 4": "ok", "relay b : hold 3 ": "ok", "relay b : \thold 3\t": "ok"})
        self.refused(InvalidCommand, console, "relay : a : hold 4")

    def test_empty_texts(self):
        console = begun("open a")
        for line in ("relay a : ", "guard none : ", "run ab : ", "troubles ab : ", "read ab : ", "bad none : ", "feed 0 : "):
            self.refused(SyntaxProblem, console, line, line=1, column=1)
        self.refused(NoName, console, "chain c : ")

    def test_names_are_any_words(self):
        console = begun()
        self.refused(NoName, console, "show :")
        for name in ("A", "a-b", "1", "abcdefghi", "::", "a:b", "\t", "a\tb", "none", "x"):
            for line in ("show {}", "drop {}", "open {}", "alike {} a", "alike a {}", "run {} : 5 close 3 shut",
                         "read {} : 5 close 3 shut", "troubles {} : 5 close 3 shut"):
                self.refused(NoName, console, line.format(name))
        for name in ("A", "a-b", "1", "abcdefghi", "::", "a:b", "\t"):
            self.refused(NoName, console, f"relay {name} : hold 4")
            self.refused(NoName, console, f"chain {name} : a")


class Operations(ConsoleCase):
    def test_relay(self):
        console = Console()
        self.told(console, {
            "relay a : rest leave": "ok", "relay b2 : hold 3,limit 9": "ok", "names": "a b2", "count": "2",
            "show a": "hold all, over stream, whole length, stream same, cut pass, wait wait, limit none, rest leave",
            "show b2": "hold 3, over stream, whole length, stream same, cut pass, wait wait, limit 9, rest shut",
        })
        console = begun()
        self.refused(SyntaxProblem, console, "relay a : hold", line=1, column=5)
        self.refused(SyntaxProblem, console, "relay A : hold", line=1, column=5)
        self.refused(NoName, console, "relay A : hold 4")
        self.refused(Mismatch, console, "relay ab : hold 4")

    def test_chain(self):
        console = begun()
        self.told(console, {"chain c : a": "ok", "show c": "a"})
        self.told(console, {"chain c : b a b": "ok", "show c": "b a b"})
        self.told(console, {"chain c : empty": "ok", "show c": "empty", "show no": "empty", "count": "7"})
        for names in ("", " ", "a ", " a", "a  b", "a,b", "a\tb", "A", "x", "ab", "a b ab", "empty empty", "empty a", "Empty", "a b ",
                      "a, b"):
            self.refused(NoName, console, f"chain c : {names}")
            self.refused(NoName, console, f"chain a : {names}")
        self.refused(TooMany, console, f"chain c : {'a ' * 12}a", limit=12)
        self.refused(Mismatch, console, "chain a : b")
        self.refused(Mismatch, console, "chain a : empty")
        self.refused(NoName, console, "chain 5 : b")

    def test_the_empty_chain_whatever_relays_there_are(self):
        console = begun("relay empty : hold 4", "chain c : empty")
        self.told(console, {"show c": "empty", "chain d : empty a": "ok", "show d": "empty a"})
        self.told(console, {"chain c : empty empty": "ok", "show c": "empty empty"})
        self.assertEqual(console.execute("show empty")[:6], "hold 4")

    def test_drop(self):
        console = begun()
        self.refused(Mismatch, console, "drop a")
        self.told(console, {"drop ab": "ok", "drop a": "ok", "drop no": "ok", "names": "b", "drop b": "ok"})
        self.assertEqual([console.execute("names"), console.execute("count")], ["nothing", "8"])
        self.refused(NoName, console, "drop b")

    def test_guard(self):
        console = begun()
        self.told(console, {"guard none : none": "ok", "guard lost : none": "ok", "guard fooled,lost,spills,waits : none": "ok",
                            "guard waits,lost : close none, marks none": "ok", "count": "8"})
        self.refused(Unsafe, console, "guard fooled : length shut", chain=("a", "b"), sending=(1, "length", 1, 0, "shut"))
        self.refused(Unsafe, console, "relay b : limit 5", chain=("a", "b"), sending=(6, "marks", None, 6, "mark"))
        self.told(console, {"guard fooled : none": "ok", "relay b : limit 5": "ok"})
        self.refused(Unsafe, console, "guard lost : marks none", chain=("a", "b"), sending=(6, "marks", None, 6, "mark"))

    def test_words_of_troubles(self):
        console = begun()
        for words in ("x", "Lost", "lost,", ",lost", "lost,,waits", "lost,lost", "lost,none", "none,lost", "none,none", "lost,x",
                      "lost;waits", ",", "fooled,lost,spills,waits,lost", "lost,waits,lost", "\tlost", "lost,\twaits", "ok"):
            self.refused(InvalidCommand, console, f"guard {words} : none")
            self.refused(InvalidCommand, console, f"bad {words} : none")
            self.refused(InvalidCommand, console, f"guard {words} : no senders")
        self.invalid("guard lost, waits : none", "bad lost ,waits : none", console=console)

    def test_senders(self):
        console = begun()
        for text in ("none ", " none", "none, none", "none,length none", "\tnone", "None", "length none,", "length"):
            for line in (f"guard lost : {text}", f"bad lost : {text}"):
                self.refused(SyntaxProblem, console, line, line=1)
        self.told(console, {"bad lost : none": "safe", "bad lost : length none": "safe", "bad none :  length\tnone , marks none ": "safe"})

    def test_undo_and_redo(self):
        console = Console()
        self.refused(NoMark, console, "undo")
        self.refused(NoMark, console, "redo")
        console = begun()
        self.told(console, {"undo": "ok", "names": "a ab b", "count": "3", "redo": "ok"})
        self.assertEqual([console.execute("names"), console.execute("count")], ["a ab b no", "4"])
        self.refused(NoMark, console, "redo")
        for _ in range(4):
            self.assertEqual(console.execute("undo"), "ok")
        self.told(console, {"names": "nothing", "count": "0"})
        self.refused(NoMark, console, "undo")
        self.told(console, {"redo": "ok", "names": "a", "relay b : hold 4": "ok"})
        self.refused(NoMark, console, "redo")

    def test_what_is_refused_leaves_what_can_be_done_again(self):
        console = begun()
        console.execute("undo")
        for line in ("drop x", "relay A : hold 4", "x", "relay a : hold", "guard x : none", "feed 0 : none"):
            with self.assertRaises(RelayError):
                console.execute(line)
        self.told(console, {"redo": "ok", "names": "a ab b no"})

    def test_most_names(self):
        console = begun()
        for number in range(8):
            console.execute(f"relay n{number} : hold 4")
        self.refused(TooMany, console, "relay x : hold 4", limit=12)
        self.refused(TooMany, console, "chain x : a", limit=12)
        self.told(console, {"relay n0 : hold 5": "ok", "chain ab : b a": "ok"})


class Asking(ConsoleCase):
    def test_names_show_and_count_of_nothing(self):
        console = Console()
        self.told(console, {"names": "nothing", "count": "0"})
        self.refused(NoName, console, "show a")

    def test_run_troubles_and_read(self):
        console = begun("relay s : limit 5, rest leave, cut refuse", "chain as : a s")
        self.told(console, {
            "run ab : 5 length 5 3 shut": "5 length 3 3 open", "troubles ab : 5 length 5 3 shut": "2 fooled",
            "read ab : 5 length 5 3 shut": "whole 3", "run a : 5 length 5 3 shut": "5 marks 3 shut",
            "troubles a : 5 length 5 3 shut": "none", "read a : 5 length 5 3 shut": "cut 3",
            "run a : 5 marks 3 open": "5 marks 3 open", "troubles a : 5 marks 3 open": "0 waits, 1 waits",
            "read a : 5 marks 3 open": "waits 3",
            "run as : 9 length 9 9 open": "nothing", "troubles as : 9 length 9 9 open": "1 spills, 1 lost",
            "read as : 9 length 9 9 open": "nothing",
            "run no : 9 length 9 3 open": "9 length 9 3 open", "troubles no : 9 length 9 3 open": "0 waits",
            "read no : 9 length 9 3 open": "waits 3", "run no :  9\tclose 3 shut ": "9 close 3 shut",
            "troubles no : 9 close 3 shut": "0 fooled", "read no : 9 close 9 shut": "whole 9",
        })

    def test_run_troubles_and_read_by_chance(self):
        chance = random.Random(301)
        for _ in range(150):
            console, names = Console(), "abc"
            relays = {name: random_relay(chance, [None, 0, 2]) for name in names}
            for name in names:
                console.execute(f"relay {name} : {format_relay(relays[name])}")
            chain = chance.choices(names, k=chance.randrange(1, 5))
            console.execute(f"chain x : {' '.join(chain)}")
            relays_of = {"x": tuple(relays[name] for name in chain), "b": (relays["b"],)}
            sending = chance.choice(right_sendings(4))
            for name, relays_there in relays_of.items():
                text = f"{name} : {format_sending(sending)}"
                out, read = passed(relays_there, sending)[-1], read_behind(relays_there, sending)
                found = ", ".join(f"{place} {word}" for place, word in run_troubles(relays_there, sending))
                self.told(console, {f"run {text}": "nothing" if out is None else format_sending(out),
                                    f"read {text}": "nothing" if read is None else " ".join(map(str, read)),
                                    f"troubles {text}": found or "none"})

    def test_the_text_ahead_of_the_name(self):
        console = begun()
        for command in ("run", "troubles", "read"):
            self.refused(SyntaxProblem, console, f"{command} x : 5 length 3 4 open", line=1, column=12)
            self.refused(NoName, console, f"{command} x : 5 length 3 3 open")
            self.refused(SyntaxProblem, console, f"{command} ab : nothing", line=1, column=1)

    def test_alike(self):
        console = begun("relay c : cut whole", "chain ba : b a", "chain c2 : c", "chain cc : c c")
        self.told(console, {"alike b b": "yes", "alike b c": "yes", "alike b c2": "yes", "alike ab ab": "yes", "alike no no": "yes",
                            "alike cc c": "0 length 2 1 shut"})
        expected = format_sending(first_difference((relay_of(cut="whole"),), ()))
        self.told(console, {"alike c no": expected, "alike no c": expected})
        one, other = relay_of(hold=0, stream="marks"), relay_of(cut="whole")
        self.told(console, {"alike ab ba": format_sending(first_difference((one, other), (other, one)))})
        self.refused(NoName, console, "alike x a")
        self.refused(NoName, console, "alike a x")

    def test_bad(self):
        console = begun()
        self.told(console, {
            "bad fooled : length shut": "a b : 1 length 1 0 shut", "bad waits,fooled : length shut": "a b : 1 length 1 0 shut",
            "bad waits : marks open": "a : 1 marks 0 open", "bad none : marks open": "safe", "bad fooled : none": "safe",
            "bad fooled,waits,lost,spills : none": "safe", "bad lost : close none, length none": "safe",
        })
        self.told(Console(), {"bad fooled : length shut": "safe", "bad none : none": "safe"})
        self.refused(SyntaxProblem, console, "bad fooled : length", line=1, column=7)
        console = begun(*[f"relay c{number} : hold 4" for number in range(5)])
        self.refused(Mismatch, console, "bad none : none")
        self.refused(SyntaxProblem, console, "bad none : x", line=1, column=1)
        self.refused(InvalidCommand, console, "bad x : x")


class LiveLines(ConsoleCase):
    def test_numbers_from_0_on(self):
        console = begun()
        for number, name in enumerate(["a", "ab", "no", "a", "b"]):
            self.assertEqual(console.execute(f"open {name}"), str(number))
        self.refused(NoName, console, "open x")
        self.assertEqual(console.execute("open a"), "5")

    def test_feed(self):
        console = begun("open ab", "open a", "open no")
        self.told(console, {
            "feed 0 : head length 5, units 3": "none", "feed 1 : head length 5, units 3": "head marks, units 3",
            "feed 1 : units 1, units 1": "units 1, units 1, mark", "feed 0 : none": "none",
            "feed 0 : shut": "head length 3, units 3", "feed 2 : time, head marks, time, units 2, mark, time": "head marks, units 2, mark",
            "feed 0 : time, time": "none", "feed 1 :  shut\t": "none",
        })

    def test_none_is_taken_if_one_cannot_come_next(self):
        console = begun("open a")
        for text in ("units 3", "head length 5, units 3, units 3", "head marks, mark, mark", "head close, mark", "head marks, head marks",
                     "mark", "shut", "time, units 3", "head length 5, units 5, mark", "head length 2, units 1, shut, time, units 1"):
            self.refused(NoEvent, console, f"feed 0 : {text}")
            self.assertEqual(console.execute("feed 0 : none"), "none")
        self.told(console, {"feed 0 : head length 5, units 3": "head marks, units 3"})
        for text in ("units 3", "units 1, units 2", "head length 5", "units 2, mark", "time, shut, units 1"):
            self.refused(NoEvent, console, f"feed 0 : {text}")
        self.told(console, {"feed 0 : units 2": "units 2, mark"})

    def test_what_comes_behind_a_time_counts(self):
        console = begun("relay c : wait cut", "open c")
        self.told(console, {"feed 0 : head length 5, units 3, time": "head length 5, units 3, shut"})
        self.refused(NoEvent, console, "feed 0 : units 3")
        self.told(console, {"feed 0 : units 2, shut": "none"})
        self.refused(NoEvent, console, "feed 0 : shut")

    def test_numbers(self):
        console = begun("open a")
        for word in ("00", "01", "x", "-1", "+0", "0x", "1000001", "1000000000000", "9" * 5000, "1.", "0,", "\t0", "0\t", "one"):
            self.refused(InvalidCommand, console, f"feed {word} : none")
            self.refused(InvalidCommand, console, f"feed {word} : x")
        for word in ("1", "2", "10", "999999", "1000000"):
            self.refused(NoLine, console, f"feed {word} : none")
            self.refused(NoLine, console, f"feed {word} : units 5")
            self.refused(SyntaxProblem, console, f"feed {word} : units 0", line=1, column=7)
        self.refused(NoLine, Console(), "feed 0 : none")

    def test_lines_stay_as_they_were_opened(self):
        console = begun("open ab", "relay b : limit 0", "chain ab : empty", "open ab", "undo", "undo")
        self.told(console, {"feed 0 : head marks, units 3, mark": "head length 3, units 3",
                            "feed 1 : head marks, units 3, mark": "head marks, units 3, mark"})
        self.told(console, {"drop ab": "ok", "drop a": "ok", "feed 0 : time": "none"})

    def test_opening_and_feeding_are_no_operations(self):
        console = begun()
        console.execute("undo")
        console.execute("open ab")
        console.execute("feed 0 : head marks")
        self.told(console, {"count": "3", "redo": "ok"})

    def test_by_chance(self):
        chance = random.Random(302)
        for _ in range(100):
            console, relay = Console(), random_relay(chance, [None, 0, 2])
            console.execute(f"relay a : {format_relay(relay)}")
            console.execute("chain x : a a")
            console.execute("open x")
            line, sending = LiveChain((relay, relay)), chance.choice(right_sendings(4))
            events = events_of(sending, (1,) * sending[3], time=True)
            while events:
                many = chance.randrange(1, len(events) + 1)
                told = [part for event in events[:many] for part in line(event)]
                self.told(console, {f"feed 0 : {format_events(events[:many])}": format_events(told)})
                events = events[many:]


class Consoles(ConsoleCase):
    def test_they_are_apart(self):
        one, other = begun("open a"), Console()
        self.told(other, {"names": "nothing", "count": "0"})
        self.refused(NoLine, other, "feed 0 : none")
        self.told(one, {"feed 0 : head marks": "none"})

    def test_against_a_net(self):
        # What the commands do is what the net does.
        chance = random.Random(303)
        for _ in range(60):
            console, net = Console(), Net()
            for _ in range(15):
                name, relay = chance.choice("abcdefg"), random_relay(chance, [None, 2])
                names = tuple(chance.choices("abc", k=chance.randrange(4)))
                senders, unwanted = [chance.choice([("close", "none"), ("marks", "shut")])], tuple(chance.sample(WORDS, 1))
                line, call = chance.choice([
                    (f"relay {name} : {format_relay(relay)}", lambda: net.do(("relay", name, relay))),
                    (f"chain {name} : {' '.join(names) or 'empty'}", lambda: net.do(("chain", name, names))),
                    (f"drop {name}", lambda: net.do(("drop", name))), ("undo", net.undo), ("redo", net.redo),
                    (f"guard {unwanted[0]} : {format_senders(senders)}", lambda: net.do(("guard", tuple(senders), unwanted))),
                ])
                self.assertEqual(self.outcome(lambda: console.execute(line)), self.outcome(lambda: call() or "ok"))
                self.assertEqual(console.execute("names"), " ".join(net.names()) or "nothing")
                self.assertEqual(console.execute("count"), str(len(net.notes())))

    def outcome(self, call):
        try:
            return call()
        except RelayError as error:
            return (type(error), vars(error))

    def test_troubles_are_those_of_a_slow_run(self):
        console, chain = begun(), (relay_of(hold=0, stream="marks"), relay_of(cut="whole"))
        for sending in right_sendings(3):
            told = ", ".join(f"{place} {word}" for place, word in model_run(chain, sending)[1]) or "none"
            self.told(console, {f"troubles ab : {format_sending(sending)}": told})

    def test_a_console_has_no_arguments(self):
        with self.assertRaises(TypeError):
            Console(PLAIN)


if __name__ == "__main__":
    unittest.main()
