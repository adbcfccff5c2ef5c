"""A console: commands in lines of text, for a net and for live lines on its chains."""

from cutrelays.chains import passed, read_behind, run_troubles
from cutrelays.errors import InvalidCommand, NoLine
from cutrelays.graphs import WORDS
from cutrelays.live import come_behind
from cutrelays.names import DIGITS
from cutrelays.net import Net
from cutrelays.tables import first_difference
from cutrelays.texts import (
    format_events, format_relay, format_sending, parse_events, parse_relay, parse_senders, parse_sending,
)

SEPARATOR = " : "
GREATEST_NUMBER = 1000000


def _unwanted_of(word):
    # The tuple of words of troubles that a word of a command tells.
    if word == "none":
        return ()
    words = word.split(",")
    if len(set(words)) != len(words) or not all([one in WORDS for one in words]):
        raise InvalidCommand("these are no words of troubles")
    return tuple(words)


def _number_of(word):
    if not all([sign in DIGITS for sign in word]) or word[0] == "0" and word != "0":
        raise InvalidCommand("this is no number")
    # A longer one is too great, and may be too long for int.
    if len(word) > len(str(GREATEST_NUMBER)) or int(word) > GREATEST_NUMBER:
        raise InvalidCommand("this number is too great")
    return int(word)


def _senders_of(text):
    return [] if text == "none" else parse_senders(text)


def _sending_or_nothing(sending):
    return "nothing" if sending is None else format_sending(sending)


def _relay(net, lines, words, text):
    net.do(("relay", words[0], parse_relay(text)))
    return "ok"


def _chain(net, lines, words, text):
    names = () if text == "empty" else tuple(text.split(" "))
    net.do(("chain", words[0], names))
    return "ok"


def _drop(net, lines, words, text):
    net.do(("drop", words[0]))
    return "ok"


def _guard(net, lines, words, text):
    unwanted = _unwanted_of(words[0])
    net.do(("guard", tuple(_senders_of(text)), unwanted))
    return "ok"


def _undo(net, lines, words, text):
    net.undo()
    return "ok"


def _redo(net, lines, words, text):
    net.redo()
    return "ok"


def _names(net, lines, words, text):
    return " ".join(net.names()) if len(net) > 0 else "nothing"


def _show(net, lines, words, text):
    thing = net[words[0]]
    if words[0] in net.relay_names():
        return format_relay(thing)
    return " ".join(thing) if thing else "empty"


def _count(net, lines, words, text):
    return str(len(net.notes()))


def _run(net, lines, words, text):
    sending = parse_sending(text)
    return _sending_or_nothing(passed(net.chain_of(words[0]), sending)[-1])


def _troubles(net, lines, words, text):
    sending = parse_sending(text)
    found = run_troubles(net.chain_of(words[0]), sending)
    return ", ".join([f"{place} {word}" for place, word in found]) if found else "none"


def _read(net, lines, words, text):
    sending = parse_sending(text)
    found = read_behind(net.chain_of(words[0]), sending)
    return "nothing" if found is None else f"{found[0]} {found[1]}"


def _alike(net, lines, words, text):
    one, other = net.chain_of(words[0]), net.chain_of(words[1])
    found = first_difference(one, other)
    return "yes" if found is None else format_sending(found)


def _bad(net, lines, words, text):
    unwanted = _unwanted_of(words[0])
    found = net.bad(_senders_of(text), unwanted)
    if found is None:
        return "safe"
    chain, sending = found
    return " ".join(chain) + SEPARATOR + format_sending(sending)


def _open_line(net, lines, words, text):
    lines.append(net.live(words[0]))
    return str(len(lines) - 1)


def _feed(net, lines, words, text):
    number = _number_of(words[0])
    events = parse_events(text)
    if number >= len(lines):
        raise NoLine("no live line has this number")
    line = lines[number]
    # Whether all of them can come is known ahead, so that none is taken if one cannot.
    come = line.got
    for event in events:
        come = come_behind(come, event)
    sent_on = []
    for event in events:
        sent_on.extend(line(event))
    return format_events(sent_on)


# How many words stand behind each command's first one, whether a text does, and what does the command.
FORMS = {
    "relay": (1, True), "chain": (1, True), "drop": (1, False), "guard": (1, True), "undo": (0, False),
    "redo": (0, False), "names": (0, False), "show": (1, False), "count": (0, False), "run": (1, True),
    "troubles": (1, True), "read": (1, True), "alike": (2, False), "bad": (1, True), "open": (1, False),
    "feed": (1, True),
}
ACTIONS = {
    "relay": _relay, "chain": _chain, "drop": _drop, "guard": _guard, "undo": _undo, "redo": _redo, "names": _names,
    "show": _show, "count": _count, "run": _run, "troubles": _troubles, "read": _read, "alike": _alike, "bad": _bad,
    "open": _open_line, "feed": _feed,
}


class Console:
    """A net, and live lines, that are told what to do by lines of text."""

    def __init__(self):
        self._net = Net()
        self._lines = []

    def execute(self, line):
        """Do a command line and return its answer."""
        head, separator, text = line.partition(SEPARATOR)
        command, *words = head.split(" ")
        if command not in FORMS or "" in words or FORMS[command] != (len(words), separator != ""):
            raise InvalidCommand("this is no command")
        action = ACTIONS[command]
        return action(self._net, self._lines, words, text)
