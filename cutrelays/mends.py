"""Changes of kinds: their choices, and the cheapest one that makes the kinds safe."""

from cutrelays.errors import Mismatch, NoChange, TooMany
from cutrelays.graphs import are_places, check_kinds, check_sources, check_unwanted, is_place
from cutrelays.judges import shows_bad, shows_closed
from cutrelays.names import is_count, is_integer
from cutrelays.relays import is_relay
from cutrelays.safety import bad_chain, closed_list

MOST_CHANGES = 6

# The places of what a change tells.
PLACE = 0
RELAY = 1
PRICE = 2


def choices(kinds, changes):
    """Generate all choices of some changes of kinds, by their price, those of a price ascending."""
    check_kinds(kinds)
    _check_changes(kinds, changes)
    yield from _all_choices(changes)


def price_of(changes, choice):
    """Return the price of a choice."""
    return sum([changes[at][PRICE] for at in choice])


def mended(kinds, changes, choice):
    """Return the kinds with the changes of a choice."""
    check_kinds(kinds)
    _check_changes(kinds, changes)
    if not _is_choice(changes, choice):
        raise Mismatch("this is no choice of the changes")
    return _changed(kinds, changes, choice)


def cheapest(kinds, links, senders, unwanted, changes):
    """Return (choice, price, closed, reasons): the cheapest safe choice, and why none ahead of it is safe.

    The first three are None if no choice is safe.
    """
    _check_all(kinds, links, senders, unwanted, changes)
    reasons = []
    for choice in _all_choices(changes):
        others = _changed(kinds, changes, choice)
        bad = bad_chain(others, links, senders, unwanted)
        if bad is None:
            return (choice, price_of(changes, choice), closed_list(others, links, senders, unwanted), reasons)
        chain, sending = bad
        reasons.append((choice, chain, sending))
    return (None, None, None, reasons)


def shows_cheapest(kinds, links, senders, unwanted, changes, thing):
    """Return whether any object is a tuple as of cheapest, with any closed list and any bad chains and sendings."""
    _check_all(kinds, links, senders, unwanted, changes)
    if not isinstance(thing, tuple) or len(thing) != 4:
        return False
    choice, price, closed, reasons = thing
    rows = _all_choices(changes)
    if not isinstance(reasons, list) or len(reasons) > len(rows):
        return False
    for row, told in zip(rows, reasons):
        others = _changed(kinds, changes, row)
        if not _is_reason(told, row) or not shows_bad(others, links, senders, unwanted, told[1:]):
            return False
    if len(reasons) == len(rows):
        return choice is None and price is None and closed is None
    row = rows[len(reasons)]
    if not _is_same(choice, row) or not is_integer(price) or price != price_of(changes, row):
        return False
    return shows_closed(_changed(kinds, changes, row), links, senders, unwanted, closed)


def _is_reason(thing, choice):
    return isinstance(thing, tuple) and len(thing) == 3 and _is_same(thing[0], choice)


def _is_same(thing, choice):
    # Places are told apart from bools, which are equal to some.
    return isinstance(thing, tuple) and all([is_integer(at) for at in thing]) and thing == choice


def _check_all(kinds, links, senders, unwanted, changes):
    check_sources(kinds, links, senders)
    check_unwanted(unwanted)
    _check_changes(kinds, changes)


def _check_changes(kinds, thing):
    if not isinstance(thing, list) or not all([_is_change(change, kinds) for change in thing]):
        raise NoChange("this is no list of changes of the kinds")
    if len(thing) > MOST_CHANGES:
        raise TooMany(MOST_CHANGES)


def _is_change(thing, kinds):
    if not isinstance(thing, tuple) or len(thing) != 3:
        return False
    return is_place(thing[PLACE], kinds) and is_relay(thing[RELAY]) and is_count(thing[PRICE])


def _is_choice(changes, thing):
    return are_places(thing, changes) and thing in _all_choices(changes)


def _all_choices(changes):
    # All choices of the changes ahead of a place, then with the one at this place behind those that it can follow.
    found = [()]
    for at, change in enumerate(changes):
        found = found + [choice + (at,) for choice in found if not _is_replaced(changes, choice, change[PLACE])]
    return [choice for _, choice in sorted([(price_of(changes, choice), choice) for choice in found])]


def _is_replaced(changes, choice, place):
    return any([changes[at][PLACE] == place for at in choice])


def _changed(kinds, changes, choice):
    others = list(kinds)
    for at in choice:
        others[changes[at][PLACE]] = changes[at][RELAY]
    return tuple(others)
