"""Nets: relays and chains under names, changed by operations that can be undone and done again."""

from cutrelays.errors import Mismatch, NoChange, NoMark, NoMend, NoName, RelayError
from cutrelays.live import LiveChain
from cutrelays.mends import cheapest
from cutrelays.names import is_count
from cutrelays.operations import (
    bad_of, first_state, has_name, kinds_of, links_of, names_of, parting_of, relay_names_of, state_behind,
)
from cutrelays.relays import is_relay


class Net:
    """Relays and chains under names, and a guard."""

    def __init__(self, *, most=12):
        self.most = most
        self._state = first_state()
        # The operations that are done, each with the state ahead of it; and those that can be done again, the next one
        # last, each with the state behind it.
        self._done = []
        self._undone = []

    @classmethod
    def of(cls, operations, *, most=12):
        """Return a net in which the operations of a list are done."""
        net = cls(most=most)
        net.all_done(operations)
        return net

    @property
    def guard(self):
        """The tuple (senders, unwanted) of the guard, or None."""
        return self._state[2]

    def do(self, operation):
        """Do any object as an operation."""
        after = state_behind(self._state, operation, self.most)
        self._done.append((operation, self._state))
        self._undone = []
        self._state = after

    def all_done(self, operations):
        """Do the operations of a list, or none of them if one is refused."""
        if not isinstance(operations, list):
            raise Mismatch("this is no list of operations")
        state, done, undone = self._state, list(self._done), self._undone
        try:
            for operation in operations:
                self.do(operation)
        except RelayError:
            self._state, self._done, self._undone = state, done, undone
            raise

    def undo(self):
        """Undo the last operation that is done."""
        if not self._done:
            raise NoMark("there is nothing to undo")
        operation, before = self._done.pop()
        self._undone.append((operation, self._state))
        self._state = before

    def redo(self):
        """Do the operation again that was undone last."""
        if not self._undone:
            raise NoMark("there is nothing to do again")
        operation, after = self._undone.pop()
        self._done.append((operation, self._state))
        self._state = after

    def notes(self):
        """Return the list of the operations that are done, in order."""
        return [operation for operation, _ in self._done]

    def __getitem__(self, at):
        relays, chains, _ = self._state
        if not has_name(self._state, at):
            raise NoName("nothing has this name")
        return relays[at] if at in relays else chains[at]

    def __iter__(self):
        raise TypeError("a net is not iterated over")

    def __contains__(self, thing):
        return has_name(self._state, thing)

    def __len__(self):
        return len(names_of(self._state))

    def names(self):
        """Return the ascending list of all names."""
        return names_of(self._state)

    def relay_names(self):
        """Return the ascending list of the names of relays."""
        return relay_names_of(self._state)

    def chain_of(self, name):
        """Return the tuple of the relays of a chain, or of a relay alone, by its name."""
        relays, chains, _ = self._state
        if not has_name(self._state, name):
            raise NoName("nothing has this name")
        names = chains[name] if name in chains else (name,)
        return tuple([relays[one] for one in names])

    def live(self, name):
        """Return a new live chain of the relays of a chain, or of a relay alone, as they are now."""
        return LiveChain(self.chain_of(name))

    def bad(self, senders, unwanted):
        """Return (names, sending), the least chain of the net's relays and links with an unwanted trouble, or None."""
        return bad_of(self._state, senders, unwanted)

    def parting(self, name, relay, senders):
        """Return the least parting, with names, of the relay under a name and another one, or None."""
        if not self._has_relay(name):
            raise NoName("no relay has this name")
        return parting_of(self._state, name, relay, senders)

    def mend(self, changes, senders, unwanted):
        """Do the cheapest changes that make the net safe, and return (names, price) of them."""
        if not isinstance(changes, list) or not all([self._is_change(change) for change in changes]):
            raise NoChange("this is no list of changes of the net")
        state = self._state
        names = relay_names_of(state)
        of_kinds = [(names.index(name), relay, price) for name, relay, price in changes]
        choice, price, _, _ = cheapest(kinds_of(state), links_of(state), senders, unwanted, of_kinds)
        if choice is None:
            raise NoMend("no choice of these changes is safe")
        if choice:
            self.do(("relays", tuple([changes[at][:2] for at in choice])))
        return (tuple([changes[at][0] for at in choice]), price)

    def _has_relay(self, thing):
        return isinstance(thing, str) and thing in self._state[0]

    def _is_change(self, thing):
        if not isinstance(thing, tuple) or len(thing) != 3:
            return False
        name, relay, price = thing
        return self._has_relay(name) and is_relay(relay) and is_count(price)
