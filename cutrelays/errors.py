"""The errors that the package raises."""


class RelayError(ValueError):
    """The base of all errors of the package."""


class TooMany(RelayError):
    """There are more than limit things where at most limit are allowed."""

    def __init__(self, limit):
        super().__init__(f"more than {limit}")
        self.limit = limit


class SyntaxProblem(RelayError):
    """A text cannot go on as it does at a line and a column."""

    def __init__(self, line, column):
        super().__init__(f"line {line}, column {column}")
        self.line = line
        self.column = column


class NoRelay(RelayError):
    """What stands at a place is no relay."""

    def __init__(self, place):
        super().__init__(f"no relay at {place}")
        self.place = place


class Unsafe(RelayError):
    """A chain has an unwanted trouble with a sending."""

    def __init__(self, chain, sending):
        super().__init__(f"{chain} is bad for {sending}")
        self.chain = chain
        self.sending = sending


class NoSending(RelayError):
    """A thing is no sending, or none of those that are asked for."""


class NoBounds(RelayError):
    """A thing is no list or tuple of bounds."""


class NoSender(RelayError):
    """A thing is no sender, or no list of senders."""


class NoWord(RelayError):
    """A thing is no tuple of words of troubles."""


class NoChange(RelayError):
    """A thing is no list of changes."""


class NoMend(RelayError):
    """No choice of the changes is safe."""


class NoName(RelayError):
    """A thing is no name, or nothing has this name."""


class NoLine(RelayError):
    """No live line has this number."""


class NoEvent(RelayError):
    """A thing is no event, or this event cannot come next."""


class NoMark(RelayError):
    """There is nothing to undo, or nothing to do again."""


class Mismatch(RelayError):
    """Things do not fit together."""


class InvalidCommand(RelayError):
    """A line is no command of the console."""
