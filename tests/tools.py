"""What several test files need: objects of all kinds, all small relays and sendings, and a slow model of point 7."""

import itertools

WAYS = ["length", "marks", "close"]
ENDS_OF = {"length": ["open", "shut"], "marks": ["mark", "open", "shut"], "close": ["open", "shut"]}
SETTINGS = ["hold", "over", "whole", "stream", "cut", "wait", "limit", "rest"]
WORDS_OF = {
    "over": ["stream", "trim"],
    "whole": ["length", "marks", "close"],
    "stream": ["same", "marks", "close"],
    "cut": ["pass", "whole", "refuse"],
    "wait": ["wait", "cut"],
    "rest": ["drain", "shut", "leave"],
}
PLAIN = (None, "stream", "length", "same", "pass", "wait", None, "shut")


def deep(depth):
    """Return an object of tuples, lists and dicts that is nested so deep."""
    thing = 0
    for level in range(depth):
        thing = ((thing,), [thing], {"a": thing})[level % 3]
    return thing


# Nothing of this is a relay, a chain of relays, a sending, bounds, a sender, senders, links or words.
NOTHINGS = [
    True, False, 0, 1, -1, 10 ** 12, "", "a", "length", "fooled", {}, {0: 0}, {"a": 1}, [None], [[]], ["a"], [True],
    [0, True], ("",), (None,), (True,), ((),), ([],), ({},), (0, 0, 0), ("length", 1), ["length", "none"], deep(20),
]


def right_sendings(most):
    """Return all sendings with values up to most, built in the order of point 3."""
    found = []
    for meant in range(most + 1):
        for units in range(most + 1):
            for told in range(units, most + 1):
                found += [(meant, "length", told, units, end) for end in ENDS_OF["length"]]
            for way in ("marks", "close"):
                found += [(meant, way, None, units, end) for end in ENDS_OF[way]]
    return found


def relay_of(**settings):
    """Return the relay with these settings, without the package."""
    return tuple(settings.get(name, plain) for name, plain in zip(SETTINGS, PLAIN))


def all_relays(holds, limits):
    """Return the relays with each word of each setting, and these holds and limits."""
    values = dict(WORDS_OF, hold=holds, limit=limits)
    return list(itertools.product(*(values[name] for name in SETTINGS)))


def random_relay(chance, sizes):
    """Return a relay with settings from chance, a random.Random, its hold and limit from sizes."""
    values = dict(WORDS_OF, hold=sizes, limit=sizes)
    return tuple(chance.choice(values[name]) for name in SETTINGS)


def model_reading(sending):
    _, way, told, units, end = sending
    whole = {"length": units == told, "marks": end == "mark", "close": end == "shut"}[way]
    return ("whole" if whole else {"shut": "cut", "open": "waits"}[end], units)


def model_troubles(sending):
    word, units = model_reading(sending)
    return {"whole": () if units == sending[0] else ("fooled",), "waits": ("waits",), "cut": ()}[word]


def model_whole(meant, way, body):
    return (meant, way, body if way == "length" else None, body, {"length": "open", "marks": "mark", "close": "shut"}[way])


def model_relayed(relay, sending):
    """Return what point 7 tells, written down sentence by sentence."""
    hold, over, whole, stream, cut, wait, limit, rest = relay
    if model_reading(sending)[0] == "waits" and wait == "cut":
        sending = sending[:4] + ("shut",)
    meant, way, told, units, end = sending
    word, body = model_reading(sending)
    line = (way, told) if stream == "same" else (stream, None)
    first = limit is not None and way == "length" and told > limit
    second = limit is not None and way != "length" and units > limit
    out = None
    if first or second:
        left = units if first else units - limit
        troubles = ()
        if rest == "leave" and left > 0 and end != "shut":
            troubles = ("spills",)
        if rest == "drain":
            troubles = tuple(told for told in model_troubles(sending) if told != "fooled")
        if second and hold is not None and limit > hold:
            out = model_whole(meant, whole, hold) if over == "trim" else (meant, *line, limit, "shut")
    else:
        troubles = model_troubles(sending)
        if hold is not None and body > hold:
            if over == "trim":
                out = model_whole(meant, whole, hold)
            elif word == "whole" or (word == "cut" and cut == "whole"):
                out = (meant, *line, body, {"length": "open", "marks": "mark", "close": "shut"}[line[0]])
            else:
                out = (meant, *line, body, {"cut": "shut", "waits": "open"}[word])
        elif word == "whole" or (word == "cut" and cut == "whole"):
            out = model_whole(meant, whole, body)
        elif word == "cut" and cut == "pass":
            out = (meant, *line, body, "shut")
    if out is None and word == "whole" and body == meant:
        troubles += ("lost",)
    return (out, troubles)


def model_run(chain, sending):
    """Return (what comes to each relay and to the reader, the list of (place, word) of the run)."""
    come, troubles = [sending], []
    for place, relay in enumerate(chain):
        out, words = (None, ()) if come[-1] is None else model_relayed(relay, come[-1])
        come.append(out)
        troubles += [(place, word) for word in words]
    if come[-1] is not None:
        troubles += [(len(chain), word) for word in model_troubles(come[-1])]
    return (come, troubles)


def model_outcome(chain, sending):
    """Return (out or None, the words at the relays, ascending, each once)."""
    come, troubles = model_run(chain, sending)
    return (come[-1], tuple(sorted({word for place, word in troubles if place < len(chain)})))


def model_standing(sending, bounds):
    """Return the standing by point 9, by counting the values below each value and above its bound."""
    values = {value for value in (sending[0], sending[2], sending[3]) if value is not None}

    def pushed(value):
        if value is None or value in bounds:
            return value
        lower = max(bound for bound in bounds if bound < value)
        return lower + len({other for other in values if lower < other <= value})

    return (pushed(sending[0]), sending[1], pushed(sending[2]), pushed(sending[3]), sending[4])


def order(sending):
    """Return the key of point 3's order, written down without the package."""
    meant, way, told, units, end = sending
    return (meant, units, WAYS.index(way), -1 if told is None else told, ["mark", "open", "shut"].index(end))


def model_sent(senders, most):
    """Return the ascending list of all sendings of some senders with meant up to most."""
    found = set()
    for way, stop in senders:
        for meant in range(most + 1):
            if stop == "none":
                found.add(model_whole(meant, way, meant))
            else:
                told = meant if way == "length" else None
                found |= {(meant, way, told, units, stop) for units in range(meant)}
    return sorted(found, key=order)
