"""Chains, tuples of relays: what a sending becomes along them, and the troubles that it meets."""

from cutrelays.errors import NoRelay, NoSending
from cutrelays.relays import is_relay, led
from cutrelays.sendings import is_sending, reading, troubles


def check_chain(thing):
    """Raise NoRelay, with the place, if any object is no tuple of relays."""
    if not isinstance(thing, tuple):
        raise NoRelay(-1)
    for place, relay in enumerate(thing):
        if not is_relay(relay):
            raise NoRelay(place)


def check_sending(thing):
    """Raise NoSending if any object is no sending."""
    if not is_sending(thing):
        raise NoSending("this is no sending")


def passed(chain, sending):
    """Return the list of a sending and of what each relay of a chain sends on, None for nothing."""
    check_chain(chain)
    check_sending(sending)
    return _run(chain, sending)[0]


def run_troubles(chain, sending):
    """Return the list of the pairs (place, word) of a run, the reader's place behind those of the relays."""
    check_chain(chain)
    check_sending(sending)
    come, words = _run(chain, sending)
    if come[-1] is not None:
        words.append(troubles(come[-1]))
    return [(place, word) for place, told in enumerate(words) for word in told]


def read_behind(chain, sending):
    """Return the reading of what comes to the reader behind a chain, None if nothing comes."""
    check_chain(chain)
    check_sending(sending)
    out, _ = outcome(chain, sending)
    return None if out is None else reading(out)


def words_of(chain, sending):
    """Return the tuple of the words of the troubles at the relays of a chain, ascending, each once."""
    check_chain(chain)
    check_sending(sending)
    return outcome(chain, sending)[1]


def outcome(chain, sending):
    """Return the pair (out or None, words) of a chain and a sending, which are not checked."""
    out = sending
    words = ()
    for relay in chain:
        if out is None:
            break
        out, told = led(relay, out)
        words = words + told
    return (out, tuple(sorted(set(words))))


def _run(chain, sending):
    # The two lists of passed, and of the words at each relay.
    come = [sending]
    words = []
    for relay in chain:
        out, told = (None, ()) if come[-1] is None else led(relay, come[-1])
        come.append(out)
        words.append(told)
    return (come, words)
