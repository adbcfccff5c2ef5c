"""What occurs behind chains of kinds, why, and whether the kinds are safe."""

from cutrelays.graphs import check_sources, check_unwanted, explored
from cutrelays.names import is_integer
from cutrelays.sendings import is_sending, order_key


def occurring(kinds, links, senders):
    """Return the ascending list of all pairs (place, standing) that occur."""
    check_sources(kinds, links, senders)
    found, _ = explored(kinds, links, senders, ())
    return _in_order(found)


def reason(kinds, links, senders, thing):
    """Return (chain, sending), the least reason why a pair (place, standing) occurs; None for any other object."""
    check_sources(kinds, links, senders)
    if not _can_occur(thing):
        return None
    found, _ = explored(kinds, links, senders, ())
    return found.get(thing)


def bad_chain(kinds, links, senders, unwanted):
    """Return (chain, sending), the least chain with an unwanted trouble, or None if the kinds are safe."""
    check_sources(kinds, links, senders)
    check_unwanted(unwanted)
    _, bad = explored(kinds, links, senders, unwanted)
    return bad


def are_safe(kinds, links, senders, unwanted):
    """Return whether no chain of the kinds has an unwanted trouble."""
    return bad_chain(kinds, links, senders, unwanted) is None


def closed_list(kinds, links, senders, unwanted):
    """Return the list of all pairs that occur if the kinds are safe, otherwise None."""
    check_sources(kinds, links, senders)
    check_unwanted(unwanted)
    found, bad = explored(kinds, links, senders, unwanted)
    return _in_order(found) if bad is None else None


def _can_occur(thing):
    # Only such a pair can be looked up among those that occur; another one may be no key at all, or True for 1.
    return isinstance(thing, tuple) and len(thing) == 2 and is_integer(thing[0]) and is_sending(thing[1])


def _in_order(found):
    return sorted(list(found), key=_pair_key)


def _pair_key(pair):
    place, sending = pair
    return (place, order_key(sending))
