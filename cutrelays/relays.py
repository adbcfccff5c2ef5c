"""Relays, tuples (hold, over, whole, stream, cut, wait, limit, rest): what they are, and what each one does."""

from cutrelays.errors import NoRelay, NoSending
from cutrelays.names import is_count
from cutrelays.sendings import WAYS, is_sending, reading, troubles, whole_sending

OVERS = ("stream", "trim")
STREAMS = ("same", "marks", "close")
CUTS = ("pass", "whole", "refuse")
WAITS = ("wait", "cut")
RESTS = ("drain", "shut", "leave")

# The places of the settings in a relay.
HOLD = 0
OVER = 1
WHOLE = 2
STREAM = 3
CUT = 4
WAIT = 5
LIMIT = 6
REST = 7

# What a whole body of each way ends with.
WHOLE_ENDS = {"length": "open", "marks": "mark", "close": "shut"}


def is_relay(thing):
    """Return whether any object is a relay."""
    if not isinstance(thing, tuple) or len(thing) != 8:
        return False
    hold, over, whole, stream, cut, wait, limit, rest = thing
    if not _is_size(hold) or not _is_size(limit):
        return False
    return over in OVERS and whole in WAYS and stream in STREAMS and cut in CUTS and wait in WAITS and rest in RESTS


def _is_size(thing):
    return thing is None or is_count(thing)


def made(*, hold=None, over="stream", whole="length", stream="same", cut="pass", wait="wait", limit=None, rest="shut"):
    """Return the relay with these settings."""
    relay = (hold, over, whole, stream, cut, wait, limit, rest)
    if not is_relay(relay):
        raise NoRelay(0)
    return relay


def is_long(relay, units):
    """Return whether a body of so many units is sent on, or trimmed, before it is known to be whole."""
    return relay[HOLD] is not None and units > relay[HOLD]


def relayed(relay, sending):
    """Return what a relay does with a sending: (what it sends on or None, the words of its troubles)."""
    if not is_relay(relay):
        raise NoRelay(0)
    if not is_sending(sending):
        raise NoSending("this is no sending")
    return led(relay, sending)


def led(relay, sending):
    """Return the pair of relayed. The relay and the sending must be right ones: they are not checked."""
    come = _as_it_ends(relay, sending)
    if _is_refused(relay, come):
        out, words = _out_of_refused(relay, come), _words_of_refused(relay, come)
    else:
        out, words = _out_of_accepted(relay, come), troubles(come)
    if out is None and reading(come) == ("whole", come[0]):
        return (None, words + ("lost",))
    return (out, words)


def _as_it_ends(relay, sending):
    if relay[WAIT] == "cut" and reading(sending)[0] == "waits":
        return sending[:4] + ("shut",)
    return sending


def _is_refused(relay, come):
    _, way, told, units, _ = come
    limit = relay[LIMIT]
    return limit is not None and (told if way == "length" else units) > limit


def _words_of_refused(relay, come):
    _, way, _, units, end = come
    limit, rest = relay[LIMIT], relay[REST]
    if rest == "drain":
        return tuple([word for word in troubles(come) if word != "fooled"])
    # A length that is too great is known ahead of the body, so all of the body is left.
    left = units if way == "length" else units - limit
    return ("spills",) if rest == "leave" and left > 0 and end != "shut" else ()


def _out_of_refused(relay, come):
    limit = relay[LIMIT]
    if come[1] == "length" or not is_long(relay, limit):
        return None
    if relay[OVER] == "trim":
        return _trimmed(relay, come)
    return _streamed(relay, come, limit, "shut")


def _out_of_accepted(relay, come):
    word, body = reading(come)
    cut = relay[CUT]
    if is_long(relay, body):
        return _out_of_long(relay, come)
    if word == "whole" or word == "cut" and cut == "whole":
        return whole_sending(come[0], relay[WHOLE], body)
    if word == "cut" and cut == "pass":
        return _streamed(relay, come, body, "shut")
    return None


def _out_of_long(relay, come):
    word, body = reading(come)
    if relay[OVER] == "trim":
        return _trimmed(relay, come)
    if word == "waits":
        return _streamed(relay, come, body, "open")
    if word == "cut" and relay[CUT] != "whole":
        return _streamed(relay, come, body, "shut")
    return _streamed(relay, come, body, WHOLE_ENDS[_way_of_stream(relay, come)])


def _trimmed(relay, come):
    return whole_sending(come[0], relay[WHOLE], relay[HOLD])


def _way_of_stream(relay, come):
    return come[1] if relay[STREAM] == "same" else relay[STREAM]


def _streamed(relay, come, units, end):
    told = come[2] if relay[STREAM] == "same" else None
    return (come[0], _way_of_stream(relay, come), told, units, end)
