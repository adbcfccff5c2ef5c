"""Bounds of relays, and standings: the least of all sendings that the relays treat alike."""

from cutrelays.chains import check_chain, check_sending
from cutrelays.errors import NoBounds
from cutrelays.names import is_count
from cutrelays.relays import HOLD, LIMIT
from cutrelays.sendings import ENDS_OF, is_sending


def bounds_of(relays):
    """Return the ascending list of 0 and of all holds and limits of some relays, each once."""
    check_chain(relays)
    sizes = [size for relay in relays for size in (relay[HOLD], relay[LIMIT]) if size is not None]
    return sorted(set([0] + sizes))


def check_bounds(thing):
    """Raise NoBounds if any object is no list or tuple of bounds."""
    if not _are_bounds(thing):
        raise NoBounds("these are no bounds")


def _are_bounds(thing):
    if not isinstance(thing, (list, tuple)) or len(thing) == 0:
        return False
    if not all([is_count(bound) for bound in thing]):
        return False
    return thing[0] == 0 and all([low < high for low, high in zip(thing, thing[1:])])


def standing(sending, bounds):
    """Return the standing of a sending at some bounds."""
    check_sending(sending)
    check_bounds(bounds)
    return settled(sending, bounds)


def is_standing(thing, bounds):
    """Return whether any object is a standing at some bounds."""
    return is_sending(thing) and settled(thing, bounds) == thing


def settled(sending, bounds):
    """Return the standing of a right sending at right bounds, which are not checked."""
    meant, way, told, units, end = sending
    if told is None:
        down = pushed_down((meant, units), bounds)
        return (down[meant], way, None, down[units], end)
    down = pushed_down((meant, told, units), bounds)
    return (down[meant], way, down[told], down[units], end)


def pushed_down(values, bounds):
    """Return a dict that leads each of some values to the one to which it is pushed down."""
    down = {}
    last = 0
    for value in sorted(set(values)):
        lower = max([bound for bound in bounds if bound <= value])
        # The value ahead is above the lower bound only if both lie between the same bounds.
        last = value if value == lower else max(lower, last) + 1
        down[value] = last
    return down


def lowest_values(bounds):
    """Return the ascending list of the values that standings at some bounds can have."""
    found = []
    for place, bound in enumerate(bounds):
        found.append(bound)
        for value in (bound + 1, bound + 2, bound + 3):
            if place + 1 == len(bounds) or value < bounds[place + 1]:
                found.append(value)
    return found


def lowest_grounds(bounds):
    """Return a dict whose keys are the values that are pushed down whatever the other values are."""
    return {value: True for bound in bounds for value in (bound, bound + 1)}


def are_down(values, grounds):
    """Return whether some values are pushed down already, with the grounds of the bounds."""
    for value in values:
        if value not in grounds and value - 1 not in values:
            return False
    return True


def standings(bounds):
    """Return the ascending list of all standings at some bounds."""
    check_bounds(bounds)
    values, grounds = lowest_values(bounds), lowest_grounds(bounds)
    return [sending for meant in values for sending in standings_of(meant, values, grounds)]


def standings_of(meant, values, grounds):
    """Return the ascending list of the standings with one meant, by the values and grounds of the bounds."""
    found = []
    for units in values:
        for told in [value for value in values if value >= units and are_down((meant, value, units), grounds)]:
            found.extend([(meant, "length", told, units, end) for end in ENDS_OF["length"]])
        if are_down((meant, units), grounds):
            found.extend([(meant, "marks", None, units, end) for end in ENDS_OF["marks"]])
            found.extend([(meant, "close", None, units, end) for end in ENDS_OF["close"]])
    return found


def how_many(bounds):
    """Return the number of all standings at some bounds."""
    check_bounds(bounds)
    gaps = [high - low - 1 for low, high in zip(bounds, bounds[1:])]
    # The gap above the last bound has no end, and three values need no more than three numbers.
    one, two, three = [len([gap for gap in gaps + [3] if gap >= many]) for many in (1, 2, 3)]
    cells = len(bounds) + one
    # Values are put into cells, each one a bound or a gap; those in one gap can be in several orders.
    pairs = cells * cells + 2 * two
    triples = cells * cells * cells + 6 * cells * two + 6 * three
    # Half of the triples with units other than told have them below it, with each of two ends; pairs
    # with told equal to units have two ends, those without told three for marks and two for close.
    return (triples - pairs) + 2 * pairs + 5 * pairs
