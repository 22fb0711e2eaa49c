"""Messages: borders in a stream (point 121)."""

from throughline.errors import InvalidAmount
from throughline.wire.octets import read_number, write_number

MOST_OCTETS = 65535
# How many octets the length of a message is written in.
HEAD = 2


def frame_message(octets):
    """Returns the frame of a message."""
    if len(octets) > MOST_OCTETS:
        raise InvalidAmount(f"a message of {len(octets)} octets")
    return [*write_number(len(octets), HEAD), *octets]


class Messages:
    """Reads messages from a stream, however it is cut."""

    def __init__(self):
        # What has come of the message that is not complete.
        self._begun = []

    @property
    def pending(self):
        return len(self._begun)

    def feed(self, octets):
        """Returns the messages that these octets complete."""
        self._begun.extend(list(octets))
        messages = []
        at = 0
        stop = _stop_of_message(self._begun, at)
        while stop is not None:
            messages.append(self._begun[at + HEAD:stop])
            at = stop
            stop = _stop_of_message(self._begun, at)
        del self._begun[:at]
        return messages


def _stop_of_message(octets, at):
    """Returns where the message that begins at the index stops, or None if it is not complete."""
    if len(octets) < at + HEAD:
        return None
    stop = at + HEAD + read_number(octets[at:at + HEAD])
    return stop if stop <= len(octets) else None
