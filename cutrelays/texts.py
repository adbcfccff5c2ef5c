"""Texts of relays, sendings, senders and events: reading them, and writing canonical ones."""

from cutrelays.errors import SyntaxProblem
from cutrelays.names import DIGITS, LETTERS
from cutrelays.relays import CUTS, OVERS, RESTS, STREAMS, WAITS, made
from cutrelays.senders import BREAKS
from cutrelays.sendings import ENDS_OF, WAYS

BLANKS = " \t"
LONGEST_WORD = 8
LONGEST_NUMBER = 13

# The sorts of a relay's settings, in their order, and the word of those that can be a size for no size.
SORTS = ("hold", "over", "whole", "stream", "cut", "wait", "limit", "rest")
SIZELESS = {"hold": "all", "limit": "none"}
EVENTS = ("head", "units", "mark", "shut", "time")


def _is_word(row):
    return len(row) <= LONGEST_WORD and all([sign in LETTERS for sign in row])


def _is_number(row):
    if not 1 <= len(row) <= LONGEST_NUMBER or not all([sign in DIGITS for sign in row]):
        return False
    return row == "0" or row[0] != "0"


def _is_of_row(sign):
    return sign in LETTERS or sign in DIGITS


def _tokens_of(text):
    # The list of the tokens of a text, each with its column.
    found, at = [], 0
    while at < len(text):
        end = at + 1
        if _is_of_row(text[at]):
            while end < len(text) and _is_of_row(text[end]):
                end += 1
        row = text[at:end]
        if row not in BLANKS:
            if row != "," and not _is_word(row) and not _is_number(row):
                raise SyntaxProblem(1, at + 1)
            found.append((row, at + 1))
        at = end
    return found


class Tokens:
    """The tokens of a text, which are taken one by one."""

    def __init__(self, text):
        self._tokens = _tokens_of(text)
        self._behind = len(text) + 1
        self._at = 0

    def are_over(self):
        """Return whether all tokens are taken."""
        return self._at == len(self._tokens)

    def next_is(self, word):
        """Return whether the next token is there and is a word."""
        return self._ahead() == word

    def refuse(self):
        """Raise the problem that the text does not go on so."""
        raise SyntaxProblem(1, self._behind if self.are_over() else self._tokens[self._at][1])

    def word(self, words):
        """Take and return the next token, one of some words."""
        if self._ahead() not in words:
            self.refuse()
        token = self._ahead()
        self._at += 1
        return token

    def number(self, least, most):
        """Take and return the next token, an integer that is not below least, nor above most if there is one."""
        if not _is_number(self._ahead()):
            self.refuse()
        value = int(self._ahead())
        if value < least or most is not None and value > most:
            self.refuse()
        self._at += 1
        return value

    def end(self):
        """Refuse what comes behind the end."""
        if not self.are_over():
            self.refuse()

    def _ahead(self):
        # The next token, no text if all are taken.
        return "" if self.are_over() else self._tokens[self._at][0]


def parse_relay(text):
    """Return the relay of a text."""
    tokens, settings = Tokens(text), {}
    while True:
        sort = tokens.word([one for one in SORTS if one not in settings])
        settings[sort] = _setting(tokens, sort)
        # Behind the last of all sorts no comma goes on.
        if tokens.are_over() or len(settings) == len(SORTS):
            tokens.end()
            return made(**settings)
        tokens.word((",",))


def _setting(tokens, sort):
    if sort not in SIZELESS:
        words = {"over": OVERS, "whole": WAYS, "stream": STREAMS, "cut": CUTS, "wait": WAITS, "rest": RESTS}
        return tokens.word(words[sort])
    if tokens.next_is(SIZELESS[sort]):
        tokens.word((SIZELESS[sort],))
        return None
    return tokens.number(0, None)


def parse_sending(text):
    """Return the sending of a text."""
    tokens = Tokens(text)
    meant = tokens.number(0, None)
    way = tokens.word(WAYS)
    told = tokens.number(0, None) if way == "length" else None
    units = tokens.number(0, told)
    end = tokens.word(ENDS_OF[way])
    tokens.end()
    return (meant, way, told, units, end)


def parse_senders(text):
    """Return the list of the senders of a text."""
    return _all_parts(Tokens(text), _sender)


def _all_parts(tokens, part):
    # What a function reads of the tokens up to each comma and to the end.
    found = [part(tokens)]
    while not tokens.are_over():
        tokens.word((",",))
        found.append(part(tokens))
    return found


def _sender(tokens):
    way = tokens.word(WAYS)
    return (way, tokens.word(BREAKS))


def parse_events(text):
    """Return the list of the events of a text."""
    tokens = Tokens(text)
    if tokens.next_is("none"):
        tokens.word(("none",))
        tokens.end()
        return []
    return _all_parts(tokens, _event)


def _event(tokens):
    word = tokens.word(EVENTS)
    if word == "head":
        way = tokens.word(WAYS)
        return ("head", way, tokens.number(0, None) if way == "length" else None)
    if word == "units":
        return ("units", tokens.number(1, None))
    return (word,)


def format_relay(relay):
    """Return the canonical text of a relay."""
    return ", ".join([f"{sort} {_setting_word(sort, value)}" for sort, value in zip(SORTS, relay)])


def _setting_word(sort, value):
    return SIZELESS[sort] if value is None else str(value)


def format_sending(sending):
    """Return the canonical text of a sending."""
    meant, way, told, units, end = sending
    if told is None:
        return f"{meant} {way} {units} {end}"
    return f"{meant} {way} {told} {units} {end}"


def format_senders(senders):
    """Return the canonical text of a list of at least one sender."""
    return ", ".join([f"{way} {stop}" for way, stop in senders])


def format_events(events):
    """Return the canonical text of a list of events."""
    if not events:
        return "none"
    return ", ".join([" ".join([str(part) for part in event if part is not None]) for event in events])
