"""Senders, pairs (way, break), and the standings of what they send."""

from cutrelays.errors import Mismatch, NoSender
from cutrelays.sendings import WAYS, ordered, whole_sending
from cutrelays.standings import are_down, check_bounds, lowest_grounds, lowest_values

BREAKS = ("none", "shut", "open")


def is_sender(thing):
    """Return whether any object is a sender."""
    return isinstance(thing, tuple) and len(thing) == 2 and thing[0] in WAYS and thing[1] in BREAKS


def check_senders(thing):
    """Raise NoSender if any object is no list of senders."""
    if not isinstance(thing, list) or not all([is_sender(sender) for sender in thing]):
        raise NoSender("this is no list of senders")


def sent(sender, meant, units):
    """Return the sending of a sender that meant to send meant units and sends units."""
    if not is_sender(sender):
        raise NoSender("this is no sender")
    if not _can_send(sender, meant, units):
        raise Mismatch("the sender does not send so many units")
    way, stop = sender
    if stop == "none":
        return whole_sending(meant, way, meant)
    return (meant, way, meant if way == "length" else None, units, stop)


def can_come(senders, sending):
    """Return whether a right sending is one of some right senders."""
    meant, units = sending[0], sending[3]
    return any([_can_send(sender, meant, units) and sent(sender, meant, units) == sending for sender in senders])


def _can_send(sender, meant, units):
    return units == meant if sender[1] == "none" else units < meant


def starts(senders, bounds):
    """Return the ascending list of the standings of all sendings of some senders, each once."""
    check_senders(senders)
    check_bounds(bounds)
    values, grounds = lowest_values(bounds), lowest_grounds(bounds)
    pairs = [(meant, units) for meant in values for units in values if are_down((meant, units), grounds)]
    found = {}
    for sender in senders:
        for meant, units in pairs:
            if _can_send(sender, meant, units):
                found[sent(sender, meant, units)] = True
    return ordered(list(found))
