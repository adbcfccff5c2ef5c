"""Live relays and live chains, which get the events of one message one by one."""

from cutrelays.chains import check_chain
from cutrelays.errors import Mismatch, NoEvent, NoRelay, TooMany
from cutrelays.graphs import is_place
from cutrelays.names import is_count
from cutrelays.relays import WAIT, is_relay, led
from cutrelays.sendings import WAYS, reading

MOST_RELAYS = 12
TIME = ("time",)


def is_event(thing):
    """Return whether any object is an event."""
    if not isinstance(thing, tuple) or len(thing) == 0:
        return False
    if thing[0] == "head":
        return len(thing) == 3 and _is_head(thing[1], thing[2])
    if thing[0] == "units":
        return len(thing) == 2 and is_count(thing[1]) and thing[1] > 0
    return thing in (("mark",), ("shut",), TIME)


def _is_head(way, told):
    return way in WAYS and (is_count(told) if way == "length" else told is None)


def come_behind(come, event):
    """Return what has come behind any object as an event, where come is what came so far (None ahead of the head).

    What has come is a sending without meant. Raise NoEvent if the object is no event or cannot come next.
    """
    if not is_event(event) or not _can_come(come, event):
        raise NoEvent("this is no event that can come next")
    if event == TIME:
        return come
    if event[0] == "head":
        return (event[1], event[2], 0, "open")
    way, told, units, end = come
    if event[0] == "units":
        return (way, told, units + event[1], end)
    return (way, told, units, event[0])


def _can_come(come, event):
    if event == TIME:
        return True
    if come is None or event[0] == "head":
        return come is None and event[0] == "head"
    way, told, units, end = come
    if end != "open":
        return False
    if event[0] == "units":
        return told is None or units + event[1] <= told
    return event[0] == "shut" or way == "marks"


def _read(come):
    # The reading does not depend on meant.
    return None if come is None else reading((0,) + come)


def _waits(come):
    return come is not None and _read(come)[0] == "waits"


def _growth(before, after):
    # The events by which what was sent on grew.
    if after is None:
        return []
    way, told, units, end = after
    events, old, old_end = [], 0, "open"
    if before is None:
        events.append(("head", way, told))
    else:
        old, old_end = before[2], before[3]
    if units > old:
        events.append(("units", units - old))
    if end != old_end:
        events.append((end,))
    return events


class Live:
    """A relay that gets the events of one message."""

    def __init__(self, relay):
        if not is_relay(relay):
            raise NoRelay(0)
        self.relay = relay
        # What really came is kept beside what counts: it tells which events can come next.
        self._come = None
        self._got = None
        self._sent = None
        self._is_cut = False

    @property
    def got(self):
        """What has come so far, None ahead of the head."""
        return self._got

    @property
    def sent(self):
        """What the relay has sent on, None if nothing."""
        return self._sent

    def __call__(self, event):
        """Take an event, and return the list of the events that are sent on because of it."""
        self._come = come_behind(self._come, event)
        if not self._is_cut:
            self._got = self._come
            if event == TIME and self.relay[WAIT] == "cut" and _waits(self._come):
                self._is_cut = True
                self._got = self._come[:3] + ("shut",)
        before = self._sent
        self._sent = self._sent_of_got()
        return _growth(before, self._sent)

    def _sent_of_got(self):
        if self._got is None:
            return None
        # The relay itself waits: a line is shut by a time alone.
        patient = self.relay[:WAIT] + ("wait",) + self.relay[WAIT + 1:]
        out, _ = led(patient, (0,) + self._got)
        return None if out is None else out[1:]


class LiveChain:
    """A chain whose first relay gets the events of one message, and each other one those of the one ahead of it."""

    def __init__(self, chain):
        check_chain(chain)
        if len(chain) > MOST_RELAYS:
            raise TooMany(MOST_RELAYS)
        self.chain = chain
        self._come = None
        self._relays = [Live(relay) for relay in chain]

    @property
    def got(self):
        """What has come to the chain, None ahead of the head. Times do not count."""
        return self._come

    @property
    def sent(self):
        """What the last relay has sent on, None if nothing; what has come if there is no relay."""
        return self._relays[-1].sent if self._relays else self._come

    def __call__(self, event):
        """Take an event, and return the list of the events that the last relay sends on because of it."""
        self._come = come_behind(self._come, event)
        times = [TIME] if event == TIME else []
        events = [] if times else [event]
        for relay in self._relays:
            sent_on = []
            for part in events + times:
                sent_on.extend(relay(part))
            events = sent_on
        return events

    def __len__(self):
        return len(self.chain)

    def sent_at(self, place):
        """Return what the relay at a place has sent on, None if nothing."""
        if not is_place(place, self.chain):
            raise Mismatch("this is no place of the chain")
        return self._relays[place].sent

    def read(self):
        """Return what the reader behind the chain reads, None if nothing was sent on."""
        return _read(self.sent)


def events_of(sending, pieces, *, time=False):
    """Return the list of the events by which a sending is told in pieces, with a time behind them if time is True."""
    _, way, told, units, end = sending
    if sum(pieces) != units:
        raise Mismatch("the pieces do not add up to the units")
    ends = [] if end == "open" else [(end,)]
    return [("head", way, told)] + [("units", piece) for piece in pieces] + ends + ([TIME] if time else [])
