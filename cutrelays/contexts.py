"""Relays that are alike in every chain of some kinds, or not: partings and likenesses."""

from cutrelays.errors import NoRelay, NoSending
from cutrelays.graphs import are_places, check_kinds
from cutrelays.relays import is_relay, led
from cutrelays.senders import can_come, check_senders, starts
from cutrelays.sendings import is_sending, order_key, ordered, reading
from cutrelays.standings import bounds_of, check_bounds, is_standing, pushed_down, settled

# What two sendings come to that are told apart. (Otherwise they come to a pair of sendings, or to None for nothing.)
APART = "apart"


def pushed_pair(one, other, bounds):
    """Return the tuple of two sendings, or None, with the values of both pushed down together."""
    for thing in (one, other):
        if thing is not None and not is_sending(thing):
            raise NoSending("this is neither a sending nor None")
    check_bounds(bounds)
    return _pushed(one, other, bounds)


def _pushed(one, other, bounds):
    values = [value for sending in (one, other) if sending is not None for value in _values_of(sending)]
    down = pushed_down(values, bounds)
    return (_replaced(one, down), _replaced(other, down))


def _values_of(sending):
    meant, _, told, units, _ = sending
    return [meant, units] if told is None else [meant, units, told]


def _replaced(sending, down):
    if sending is None:
        return None
    meant, way, told, units, end = sending
    return (down[meant], way, None if told is None else down[told], down[units], end)


def parting(kinds, senders, one, other):
    """Return the least (ahead, sending, behind) that tells two relays apart, None if they are alike in every chain."""
    _check_relays(kinds, senders, one, other)
    bounds = bounds_of(kinds + (one, other))
    chains, firsts, steps = _explored(kinds, senders, one, other, bounds)
    lengths = _lengths(steps)
    totals = {come: len(chains[come]) + lengths[firsts[come]] for come in chains if firsts[come] in lengths}
    if not totals:
        return None
    total = min(totals.values())
    # A shorter way to the same standing would be the way of a shorter parting, so each ahead is its standing's least.
    ahead = min([chains[come] for come in totals if totals[come] == total])
    reached = [_reached(kinds, ahead, sending, bounds) for sending in starts(senders, bounds)]
    ends = [firsts[come] for come in reached if come in totals and totals[come] == total]
    behind = min([_least_row(end, steps, lengths) for end in ends if lengths[end] == total - len(ahead)])
    found = [(ahead, sending, behind) for sending in starts(senders, bounds)]
    return [thing for thing in found if _are_apart(kinds, one, other, thing)][0]


def likeness(kinds, senders, one, other):
    """Return the least likeness (standings, pairs) of two relays, None if they are not alike in every chain."""
    _check_relays(kinds, senders, one, other)
    bounds = bounds_of(kinds + (one, other))
    chains, firsts, steps = _explored(kinds, senders, one, other, bounds)
    if any([APART in ends for ends in [list(firsts.values())] + list(steps.values())]):
        return None
    return (ordered(list(chains)), sorted(list(steps), key=_pair_key))


def are_alike_everywhere(kinds, senders, one, other):
    """Return whether two relays are alike in every chain of some kinds."""
    return likeness(kinds, senders, one, other) is not None


def shows_parting(kinds, senders, one, other, thing):
    """Return whether any object is a tuple (ahead, sending, behind) that tells two relays apart."""
    _check_relays(kinds, senders, one, other)
    if not isinstance(thing, tuple) or len(thing) != 3:
        return False
    ahead, sending, behind = thing
    if not are_places(ahead, kinds) or not are_places(behind, kinds):
        return False
    return is_sending(sending) and can_come(senders, sending) and _are_apart(kinds, one, other, thing)


def shows_likeness(kinds, senders, one, other, thing):
    """Return whether any object is a likeness of two relays, in any order, the least one or not."""
    _check_relays(kinds, senders, one, other)
    bounds = bounds_of(kinds + (one, other))
    if not isinstance(thing, tuple) or len(thing) != 2:
        return False
    standings, pairs = thing
    if not _are_standings(standings, bounds) or not _are_pairs(pairs, bounds):
        return False
    come, alike = {sending: True for sending in standings}, {pair: True for pair in pairs}
    needed = starts(senders, bounds) + [_led_on(kind, sending, bounds) for kind in kinds for sending in standings]
    if any([sending is not None and sending not in come for sending in needed]):
        return False
    ends = [_both_led(one, other, (sending, sending), bounds) for sending in standings]
    ends = ends + [_both_led(kind, kind, pair, bounds) for kind in kinds for pair in pairs]
    return all([end is None or end in alike for end in ends])


def _are_standings(thing, bounds):
    if not isinstance(thing, list) or not all([is_standing(sending, bounds) for sending in thing]):
        return False
    return len(set(thing)) == len(thing)


def _are_pairs(thing, bounds):
    if not isinstance(thing, list) or not all([_is_pair(pair, bounds) for pair in thing]):
        return False
    return len(set(thing)) == len(thing)


def _is_pair(thing, bounds):
    if not isinstance(thing, tuple) or len(thing) != 2 or not all([is_sending(sending) for sending in thing]):
        return False
    one, other = thing
    return reading(one) == reading(other) and _pushed(one, other, bounds) == thing


def _check_relays(kinds, senders, one, other):
    check_kinds(kinds)
    check_senders(senders)
    for place, relay in enumerate((one, other)):
        if not is_relay(relay):
            raise NoRelay(place)


def _pair_key(pair):
    one, other = pair
    return (order_key(one), order_key(other))


def _led_on(kind, sending, bounds):
    # The standing of what a kind sends on, or None.
    out, _ = led(kind, sending)
    return None if out is None else settled(out, bounds)


def _reached(kinds, places, sending, bounds):
    # The standing of what a chain of kinds sends on, or None.
    come = sending
    for place in places:
        if come is not None:
            come = _led_on(kinds[place], come, bounds)
    return come


def _both_led(one, other, pair, bounds):
    # What two relays, or one twice, make of two sendings that are not told apart: APART, None or a pair.
    out, words = led(one, pair[0])
    second, told = led(other, pair[1])
    if words != told or _read(out) != _read(second):
        return APART
    return None if out is None else _pushed(out, second, bounds)


def _read(out):
    return None if out is None else reading(out)


def _are_apart(kinds, one, other, thing):
    ahead, come, behind = thing
    for place in ahead:
        come, _ = led(kinds[place], come)
        if come is None:
            return False
    first, words = led(one, come)
    second, told = led(other, come)
    for place in behind:
        if words != told or first == second:
            break
        # Where one of the two sends on nothing, what the other one sends on can come to nothing further behind.
        first, words = _led_if_any(kinds[place], first)
        second, told = _led_if_any(kinds[place], second)
    return words != told or _read(first) != _read(second)


def _led_if_any(kind, come):
    return (None, ()) if come is None else led(kind, come)


def _explored(kinds, senders, one, other, bounds):
    # Three dicts: from each standing that comes to the two relays to the least of the shortest chains ahead of them,
    # and to what they make of it; and from each pair that is behind them somewhere to what each kind makes of it.
    chains = _chains_ahead(kinds, senders, bounds)
    firsts = {come: _both_led(one, other, (come, come), bounds) for come in chains}
    steps = {}
    layer = list(firsts.values())
    while layer:
        reached = []
        for pair in layer:
            if pair is not None and pair != APART and pair not in steps:
                steps[pair] = [_both_led(kind, kind, pair, bounds) for kind in kinds]
                reached.extend(steps[pair])
        layer = reached
    return (chains, firsts, steps)


def _chains_ahead(kinds, senders, bounds):
    chains = {sending: () for sending in starts(senders, bounds)}
    layer = list(chains)
    while layer:
        reached = {}
        for come in layer:
            for place, kind in enumerate(kinds):
                out = _led_on(kind, come, bounds)
                chain = chains[come] + (place,)
                if out is not None and out not in chains and (out not in reached or chain < reached[out]):
                    reached[out] = chain
        for out in reached:
            chains[out] = reached[out]
        layer = list(reached)
    return chains


def _lengths(steps):
    # For APART, and each pair that is told apart further behind, the least number of relays that it takes.
    ahead = {}
    for pair in steps:
        for end in steps[pair]:
            ahead.setdefault(end, []).append(pair)
    lengths = {APART: 0}
    layer = [APART]
    while layer:
        reached = []
        for end in layer:
            for pair in ahead.get(end, []):
                if pair not in lengths:
                    lengths[pair] = lengths[end] + 1
                    reached.append(pair)
        layer = reached
    return lengths


def _least_row(end, steps, lengths):
    # The least one of the shortest rows of places that tell a pair apart.
    row = ()
    while end != APART:
        left = lengths[end] - 1
        place = min([place for place, after in enumerate(steps[end]) if lengths.get(after) == left])
        row = row + (place,)
        end = steps[end][place]
    return row
