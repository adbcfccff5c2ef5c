"""Sendings, tuples (meant, way, told, units, end): what they are, how they are read, and their order."""

from cutrelays.names import is_count

WAYS = ("length", "marks", "close")
ENDS = ("mark", "open", "shut")
ENDS_OF = {"length": ("open", "shut"), "marks": ("mark", "open", "shut"), "close": ("open", "shut")}


def is_sending(thing):
    """Return whether any object is a sending."""
    if not isinstance(thing, tuple) or len(thing) != 5:
        return False
    meant, way, told, units, end = thing
    if not is_count(meant) or way not in WAYS or not is_count(units):
        return False
    return _told_fits(way, told, units) and end in ENDS_OF[way]


def _told_fits(way, told, units):
    if way == "length":
        return is_count(told) and units <= told
    return told is None


def reading(sending):
    """Return what somebody has of a sending who reads it from its line: (word, units)."""
    _, way, told, units, end = sending
    if _is_whole(way, told, units, end):
        return ("whole", units)
    if end == "shut":
        return ("cut", units)
    return ("waits", units)


def _is_whole(way, told, units, end):
    if way == "length":
        return units == told
    if way == "marks":
        return end == "mark"
    return end == "shut"


def troubles(sending):
    """Return the tuple of the troubles of a sending's reading."""
    word, units = reading(sending)
    if word == "whole" and units != sending[0]:
        return ("fooled",)
    if word == "waits":
        return ("waits",)
    return ()


def whole_sending(meant, way, body):
    """Return the sending of a whole body of so many units."""
    if way == "length":
        return (meant, "length", body, body, "open")
    if way == "marks":
        return (meant, "marks", None, body, "mark")
    return (meant, "close", None, body, "shut")


def ordered(sendings):
    """Return the ascending list of the sendings of a list."""
    return sorted(sendings, key=order_key)


def order_key(sending):
    """Return what sendings are ordered by, as a tuple that Python compares in their order."""
    meant, way, told, units, end = sending
    # None does not compare with integers, and told is None for all sendings of a way or for none.
    length = 0 if told is None else told
    return (meant, units, WAYS.index(way), length, ENDS.index(end))
