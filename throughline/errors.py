"""The errors that the program raises."""


class ThroughlineError(ValueError):
    """The base class of all errors."""


class InvalidOptions(ThroughlineError):
    """Options whose values are out of bounds or do not fit together."""


class InvalidPort(ThroughlineError):
    """A port that is not from 1 to 65535."""


class InvalidAmount(ThroughlineError):
    """A number that is out of the bounds of its parameter."""


class UnknownSocket(ThroughlineError):
    """A socket that the host does not have."""


class SocketInUse(ThroughlineError):
    """A port, or a port and a peer, that are taken already."""


class TooManySockets(ThroughlineError):
    """One socket more than a host can have."""


class ConnectionEnded(ThroughlineError):
    """A call that needs a connection that has not ended."""


class AlreadyFinished(ThroughlineError):
    """A write behind the end of the stream."""


class NotEnded(ThroughlineError):
    """A call that needs a connection that has ended."""


class OwnAddress(ThroughlineError):
    """A connection of a socket to itself."""


class TickInThePast(ThroughlineError):
    """A tick that is less than the present one."""


class InvalidOctets(ThroughlineError):
    """A text that is not the written form of octets."""


class InvalidDeed(ThroughlineError):
    """A tuple that is not a deed."""


class UnknownHost(ThroughlineError):
    """An index that no host of the net has."""


class UnknownFlight(ThroughlineError):
    """A position at which no packet is under way."""


class InvalidFrame(ThroughlineError):
    """Octets that no frame begins with."""


class UnknownChannel(ThroughlineError):
    """A channel that the side does not have."""


class TooManyChannels(ThroughlineError):
    """One channel more than a side can open."""


class DamagedSegment(ThroughlineError):
    """Octets that are refused as a segment, with the reason."""

    def __init__(self, reason):
        super().__init__(f"refused: {reason}")
        self.reason = reason


class InvalidRecord(ThroughlineError):
    """A line that is not a record, with its number."""

    def __init__(self, line):
        super().__init__(f"line {line} is not a record")
        self.line = line


class InvalidText(ThroughlineError):
    """A text of a host with a wrong line, with the number of that line."""

    def __init__(self, line):
        super().__init__(f"line {line} is wrong")
        self.line = line


class InvalidScript(ThroughlineError):
    """A text that is not a script, with the place of the wrong word and what was expected there."""

    def __init__(self, line, column, expected):
        super().__init__(f"line {line}, column {column}: expected {expected}")
        self.line = line
        self.column = column
        self.expected = expected
