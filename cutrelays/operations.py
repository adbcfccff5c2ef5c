"""Operations of nets: what each one makes of a net's names and guard, and what it is refused for.

A state of a net is a tuple (relays, chains, guard): a dict from names to relays, one from names to tuples of names of
relays, and None or a tuple (senders, unwanted). No state is changed once it is made.
"""

from cutrelays.contexts import parting
from cutrelays.errors import Mismatch, NoName, NoRelay, NoSender, TooMany, Unsafe
from cutrelays.graphs import check_unwanted
from cutrelays.names import is_name
from cutrelays.relays import is_relay
from cutrelays.safety import bad_chain
from cutrelays.senders import check_senders, is_sender

MOST_OF_CHAIN = 12


def first_state():
    """Return the state of a net without names and without a guard."""
    return ({}, {}, None)


def has_name(state, thing):
    """Return whether something has any object as its name."""
    relays, chains, _ = state
    return isinstance(thing, str) and (thing in relays or thing in chains)


def names_of(state):
    """Return the ascending list of all names."""
    relays, chains, _ = state
    return sorted(list(relays) + list(chains))


def relay_names_of(state):
    """Return the ascending list of the names of relays: a relay's place in it is its place as a kind."""
    return sorted(list(state[0]))


def kinds_of(state):
    """Return the tuple of the relays, by their ascending names."""
    relays = state[0]
    return tuple([relays[name] for name in relay_names_of(state)])


def links_of(state):
    """Return the links that the chains make: their first relays, and their neighbours."""
    names = relay_names_of(state)
    found = {}
    for chain in state[1].values():
        places = [names.index(name) for name in chain]
        for link in zip([-1] + places, places):
            found[link] = True
    return tuple(found)


def bad_of(state, senders, unwanted):
    """Return the bad chain of the relays with their links, and its sending, as bad_chain does, but with names."""
    if not state[0]:
        check_senders(senders)
        check_unwanted(unwanted)
        return None
    bad = bad_chain(kinds_of(state), links_of(state), senders, unwanted)
    if bad is None:
        return None
    places, sending = bad
    return (_with_names(state, places), sending)


def parting_of(state, name, relay, senders):
    """Return the parting of the relay under a name and another one in all chains of the relays, but with names."""
    found = parting(kinds_of(state), senders, state[0][name], relay)
    if found is None:
        return None
    ahead, sending, behind = found
    return (_with_names(state, ahead), sending, _with_names(state, behind))


def _with_names(state, places):
    names = relay_names_of(state)
    return tuple([names[place] for place in places])


def state_behind(state, operation, most):
    """Return the state behind any object as an operation, with at most so many names; raise what it is refused for."""
    if not _is_operation(operation):
        raise Mismatch("this is no operation")
    action = ACTIONS[operation[0]]
    after = action(state, operation, most)
    _check_guard(after)
    return after


def _is_operation(thing):
    if not isinstance(thing, tuple) or len(thing) == 0 or not isinstance(thing[0], str):
        return False
    return thing[0] in ACTIONS and len(thing) == SIZES[thing[0]]


def _check_guard(state):
    guard = state[2]
    if guard is not None:
        senders, unwanted = guard
        bad = bad_of(state, list(senders), unwanted)
        if bad is not None:
            chain, sending = bad
            raise Unsafe(chain, sending)


def _put_relay(state, operation, most):
    _, name, relay = operation
    return _with_relay(state, name, relay, most)


def _put_relays(state, operation, most):
    pairs = operation[1]
    if not isinstance(pairs, tuple) or not all([isinstance(pair, tuple) and len(pair) == 2 for pair in pairs]):
        raise Mismatch("these are no pairs of a name and a relay")
    for name, relay in pairs:
        state = _with_relay(state, name, relay, most)
    return state


def _with_relay(state, name, relay, most):
    relays, chains, guard = state
    if not is_name(name):
        raise NoName("this is no name")
    if not is_relay(relay):
        raise NoRelay(0)
    if name in chains:
        raise Mismatch("a chain has this name")
    _check_room(state, name, most)
    return ({**relays, name: relay}, chains, guard)


def _put_chain(state, operation, most):
    _, name, names = operation
    relays, chains, guard = state
    if not is_name(name):
        raise NoName("this is no name")
    if not isinstance(names, tuple):
        raise Mismatch("this is no tuple of names")
    if not all([isinstance(one, str) and one in relays for one in names]):
        raise NoName("no relay has one of these names")
    if len(names) > MOST_OF_CHAIN:
        raise TooMany(MOST_OF_CHAIN)
    if name in relays:
        raise Mismatch("a relay has this name")
    _check_room(state, name, most)
    return (relays, {**chains, name: names}, guard)


def _check_room(state, name, most):
    if not has_name(state, name) and len(state[0]) + len(state[1]) >= most:
        raise TooMany(most)


def _drop(state, operation, _):
    name = operation[1]
    relays, chains, guard = state
    if not has_name(state, name):
        raise NoName("nothing has this name")
    if any([name in names for names in chains.values()]):
        raise Mismatch("a chain names this relay")
    return (_without(relays, name), _without(chains, name), guard)


def _without(table, name):
    return {key: table[key] for key in table if key != name}


def _set_guard(state, operation, _):
    _, senders, unwanted = operation
    relays, chains, _ = state
    if not isinstance(senders, tuple) or not all([is_sender(sender) for sender in senders]):
        raise NoSender("this is no tuple of senders")
    check_unwanted(unwanted)
    return (relays, chains, (senders, unwanted))


# What each operation is done by, and how many things it has, its word among them.
ACTIONS = {"relay": _put_relay, "relays": _put_relays, "chain": _put_chain, "drop": _drop, "guard": _set_guard}
SIZES = {"relay": 3, "relays": 2, "chain": 3, "drop": 2, "guard": 3}
