"""What the tests of kinds, links, senders and unwanted words share: slow searches, draws and wrong things."""

import itertools
import random

from cutrelays.standings import bounds_of, standings
from tools import (
    NOTHINGS, PLAIN, WAYS, model_relayed, model_run, model_sent, model_standing, model_troubles, random_relay, relay_of,
)

SENDERS = list(itertools.product(WAYS, ["none", "shut", "open"]))
WORDS = ["fooled", "lost", "spills", "waits"]
CLOSER = [("close", "none")]
MARKER = relay_of(whole="marks")
ENDER = relay_of(cut="whole")
REFUSER = relay_of(cut="refuse", wait="cut")
SMALL = relay_of(limit=5, rest="leave")


def all_links(kinds):
    return tuple((ahead, place) for ahead in range(-1, len(kinds)) for place in range(len(kinds)))


def all_chains(kinds, links, longest):
    """Return the chains of kinds that are not longer, the shorter ones first, then ascending."""
    links = all_links(kinds) if links is None else links
    found = []
    for length in range(1, longest + 1):
        for places in itertools.product(range(len(kinds)), repeat=length):
            if all(link in links for link in zip((-1,) + places, places)):
                found.append(places)
    return found


def sendings_of(kinds, senders):
    """Return sendings of the senders, ascending, among them those of all standings."""
    return model_sent(senders, bounds_of(kinds)[-1] + 4)


def slow_bad(kinds, links, senders, unwanted, longest):
    """Return the first bad chain that is not longer, with its least sending, or None."""
    sendings = sendings_of(kinds, senders)
    for places in all_chains(kinds, links, longest):
        chain = tuple(kinds[place] for place in places)
        for sending in sendings:
            if any(word in unwanted for _, word in model_run(chain, sending)[1]):
                return (places, sending)
    return None


def is_closed(kinds, links, senders, unwanted, pairs):
    """Return whether a list is a closed list, by the sentence of point 13."""
    bounds = bounds_of(kinds)
    links = all_links(kinds) if links is None else links
    if len(set(pairs)) != len(pairs) or not all(sending in standings(bounds) for _, sending in pairs):
        return False
    ahead = [(-1, model_standing(sending, bounds)) for sending in sendings_of(kinds, senders)] + pairs
    for (last, sending), place in itertools.product(ahead, range(len(kinds))):
        if (last, place) in links:
            out, words = model_relayed(kinds[place], sending)
            if any(word in unwanted for word in words):
                return False
            if out is not None and (place, model_standing(out, bounds)) not in pairs:
                return False
    return not any(word in unwanted for _, sending in pairs for word in model_troubles(sending))


def draws(seed, many, most=3):
    """Return (kinds, links, senders, unwanted) of some draws."""
    chance, found = random.Random(seed), []
    for _ in range(many):
        kinds = tuple(random_relay(chance, [None, 0, 2, 3]) for _ in range(chance.randrange(1, most + 1)))
        links = None
        if chance.randrange(2):
            links = tuple(link for link in all_links(kinds) if chance.randrange(3))
        senders = chance.sample(SENDERS, chance.choice([0, 1, 1, 2, 3, 9]))
        unwanted = tuple(chance.sample(WORDS, chance.choice([0, 1, 1, 1, 2, 4])))
        found.append((kinds, links, senders, unwanted))
    return found


NO_KINDS = [
    ([PLAIN], -1), (None, -1), ((PLAIN, None), 1), ((list(PLAIN),), 0), (PLAIN, 0), ((PLAIN,) * 6 + (7,), 6), ("", -1),
]
WRONG_LINKS = [thing for thing in NOTHINGS if thing != ()] + [
    [], [(-1, 0)], ((-1, 0), (-1, 0)), ((0, 1), (1, 0), (0, 1)), ((-2, 0),), ((0, -1),), ((0, 2),), ((2, 0),),
    ((-1, -1),), ((0,),), ((0, 1, 1),), ([0, 1],), ((True, 0),), ((0, True),), ((0, False),), ((-1, None),), ((None, 0),),
    (("0", 0),), ((0, [1]),), (-1, 0), {(-1, 0): 1}, ((-1, 0), None), ((), (-1, 0)), (((-1, 0),),), ((10 ** 12, 0),),
]
WRONG_SENDERS = [thing for thing in NOTHINGS if thing != []] + [
    None, (), tuple(SENDERS), ("length", "none"), [("length",)], [["length", "none"]], [("length", "none"), None],
    [("same", "none")], [("length", "mark")], [SENDERS], {("length", "none"): 1},
]
WRONG_WORDS = [thing for thing in NOTHINGS if thing != ()] + [
    None, [], ["fooled"], "fooled", ("fooled", "fooled"), ("fooled", "waits", "fooled"), ("Fooled",), ("fooled", None),
    (["fooled"],), ("spill",), ("",), ("fooled ",), (("fooled",),), ("cut",), ("whole",), {"fooled": 1}, ("waits", 0),
    ("lost", True),
]
