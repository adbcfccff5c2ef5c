"""What the functions of chains of kinds share: the checks of their arguments, and the search of what occurs."""

from cutrelays.chains import check_chain
from cutrelays.errors import Mismatch, NoWord
from cutrelays.names import is_integer
from cutrelays.relays import led
from cutrelays.senders import check_senders, starts
from cutrelays.sendings import troubles
from cutrelays.standings import bounds_of, settled

MOST_KINDS = 6
WORDS = ("fooled", "lost", "spills", "waits")


def check_kinds(thing):
    """Raise NoRelay or Mismatch if any object is no tuple of one to six relays."""
    check_chain(thing)
    if not 1 <= len(thing) <= MOST_KINDS:
        raise Mismatch("there are no kinds, or too many")


def check_links(thing, kinds):
    """Raise Mismatch if any object is neither None nor links of some kinds."""
    if thing is not None and not _are_links(thing, kinds):
        raise Mismatch("these are no links of the kinds")


def _are_links(thing, kinds):
    if not isinstance(thing, tuple) or not all([_is_link(link, kinds) for link in thing]):
        return False
    return len(set(thing)) == len(thing)


def _is_link(thing, kinds):
    if not isinstance(thing, tuple) or len(thing) != 2:
        return False
    ahead, place = thing
    return is_place(place, kinds) and (ahead == -1 or is_place(ahead, kinds))


def is_place(thing, things):
    """Return whether any object is a place of a list or tuple."""
    return is_integer(thing) and 0 <= thing < len(things)


def are_places(thing, kinds):
    """Return whether any object is a tuple of places of some kinds."""
    return isinstance(thing, tuple) and all([is_place(place, kinds) for place in thing])


def check_sources(kinds, links, senders):
    """Raise what any kinds, links and senders are refused with."""
    check_kinds(kinds)
    check_links(links, kinds)
    check_senders(senders)


def check_unwanted(thing):
    """Raise NoWord if any object is no tuple of different words of troubles."""
    if not isinstance(thing, tuple) or not all([word in WORDS for word in thing]):
        raise NoWord("this is no tuple of words of troubles")
    if len(set(thing)) != len(thing):
        raise NoWord("a word is told twice")


def followers(kinds, links):
    """Return a dict from each place of the kinds, and -1, to the list of the places that may come behind it."""
    places = list(range(len(kinds)))
    return {ahead: [place for place in places if links is None or (ahead, place) in links] for ahead in [-1] + places}


def explored(kinds, links, senders, unwanted):
    """Return a dict from each pair that occurs to the (chain, sending) of its reason, and the bad (chain, sending).

    The second one is None if the kinds are safe. Otherwise the search ends there, and the dict lacks some pairs.
    """
    bounds = bounds_of(kinds)
    sendings = starts(senders, bounds)
    behind = followers(kinds, links)
    found, steps = {}, {}
    # A layer has the chains of one length: (chain, the number of the sending, the standing that comes out), ascending.
    # Whatever leads to a standing at a place goes on alike, so the first one that gets there is the least one.
    layer = [((), number, sending) for number, sending in enumerate(sendings)]
    while layer:
        reached, bad = [], []
        for chain, number, come in layer:
            for place in behind[chain[-1] if chain else -1]:
                if (place, come) not in steps:
                    steps[(place, come)] = step(kinds[place], come, bounds, unwanted)
                out, is_bad = steps[(place, come)]
                if is_bad:
                    bad.append((chain + (place,), number))
                elif out is not None and (place, out) not in found:
                    found[(place, out)] = (chain + (place,), sendings[number])
                    reached.append((chain + (place,), number, out))
        if bad:
            chain, number = min(bad)
            return (found, (chain, sendings[number]))
        layer = sorted(reached)
    return (found, None)


def step(kind, come, bounds, unwanted):
    """Return the standing of what a kind sends on, or None, and whether it or a reader has unwanted troubles."""
    out, words = led(kind, come)
    if out is None:
        return (None, any([word in unwanted for word in words]))
    return (settled(out, bounds), any([word in unwanted for word in words + troubles(out)]))
