"""Tables of chains at some bounds, their products, and chains that are alike."""

from cutrelays.chains import check_chain, check_sending, outcome
from cutrelays.errors import Mismatch, NoSending
from cutrelays.standings import (
    bounds_of, check_bounds, is_standing, lowest_grounds, lowest_values, standings, standings_of,
)


class Table:
    """What a chain makes of each standing at some bounds."""

    def __init__(self, chain, bounds):
        check_chain(chain)
        check_bounds(bounds)
        if any([bound not in bounds for bound in bounds_of(chain)]):
            raise Mismatch("the bounds lack one of a relay")
        self.chain = chain
        self.bounds = tuple(bounds)
        self._rows = {sending: outcome(chain, sending) for sending in standings(bounds)}

    @classmethod
    def empty(cls, bounds):
        """Return the table of the empty chain at some bounds."""
        return cls((), bounds)

    def __getitem__(self, at):
        if not is_standing(at, self.bounds):
            raise NoSending("this is no standing at the bounds of the table")
        return self._rows[at]

    def __iter__(self):
        raise TypeError("a table is not iterated over")

    def __call__(self, sending):
        check_sending(sending)
        return outcome(self.chain, sending)

    def __contains__(self, thing):
        return is_standing(thing, self.bounds)

    def __len__(self):
        return len(self._rows)

    def __mul__(self, other):
        if not isinstance(other, Table):
            return NotImplemented
        if self.bounds != other.bounds:
            raise Mismatch("the tables have different bounds")
        return Table(self.chain + other.chain, self.bounds)

    def __pow__(self, other):
        return Table(self.chain * other, self.bounds)

    def __eq__(self, other):
        if not isinstance(other, Table):
            return False
        return self.bounds == other.bounds and self._rows == other._rows


def first_difference(one, other):
    """Return the least sending that two chains lead to two outs or words, None if they are alike."""
    check_chain(one)
    check_chain(other)
    bounds = bounds_of(one + other)
    values, grounds = lowest_values(bounds), lowest_grounds(bounds)
    for meant in values:
        for sending in standings_of(meant, values, grounds):
            if outcome(one, sending) != outcome(other, sending):
                return sending
    return None


def are_alike(one, other):
    """Return whether two chains lead each sending to the same out and words."""
    return first_difference(one, other) is None
