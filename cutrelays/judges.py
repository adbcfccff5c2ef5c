"""What shows that kinds are not safe, and what shows that they are: bad chains and closed lists of any origin."""

from cutrelays.graphs import are_places, check_sources, check_unwanted, followers, is_place, step
from cutrelays.relays import led
from cutrelays.senders import can_come, starts
from cutrelays.sendings import is_sending, troubles
from cutrelays.standings import bounds_of, is_standing


def shows_bad(kinds, links, senders, unwanted, thing):
    """Return whether any object is a tuple (chain, sending) with an unwanted trouble on its run."""
    check_sources(kinds, links, senders)
    check_unwanted(unwanted)
    if not isinstance(thing, tuple) or len(thing) != 2:
        return False
    places, sending = thing
    if not _is_chain(places, kinds, links) or not is_sending(sending) or not can_come(senders, sending):
        return False
    return _has_trouble([kinds[place] for place in places], sending, unwanted)


def _is_chain(thing, kinds, links):
    if not are_places(thing, kinds) or len(thing) == 0:
        return False
    behind = followers(kinds, links)
    return all([place in behind[ahead] for ahead, place in zip((-1,) + thing, thing)])


def _has_trouble(chain, sending, unwanted):
    come = sending
    for relay in chain:
        come, words = led(relay, come)
        if _are_unwanted(words, unwanted):
            return True
        if come is None:
            return False
    return _are_unwanted(troubles(come), unwanted)


def _are_unwanted(words, unwanted):
    return any([word in unwanted for word in words])


def shows_closed(kinds, links, senders, unwanted, thing):
    """Return whether any object is a closed list, in any order, with more than what occurs or not."""
    check_sources(kinds, links, senders)
    check_unwanted(unwanted)
    bounds = bounds_of(kinds)
    if not _are_pairs(thing, kinds, bounds) or any([_are_unwanted(troubles(come), unwanted) for _, come in thing]):
        return False
    behind = followers(kinds, links)
    ahead = [(-1, sending) for sending in starts(senders, bounds)] + thing
    steps = {(place, come): True for last, come in ahead for place in behind[last]}
    there = {pair: True for pair in thing}
    for place, come in steps:
        out, is_bad = step(kinds[place], come, bounds, unwanted)
        if is_bad or out is not None and (place, out) not in there:
            return False
    return True


def _are_pairs(thing, kinds, bounds):
    if not isinstance(thing, list) or not all([_is_pair(pair, kinds, bounds) for pair in thing]):
        return False
    return len(set(thing)) == len(thing)


def _is_pair(thing, kinds, bounds):
    if not isinstance(thing, tuple) or len(thing) != 2:
        return False
    return is_place(thing[0], kinds) and is_standing(thing[1], bounds)
