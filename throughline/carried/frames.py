"""Frames, what a side of channels hands out (point 110)."""

from throughline.errors import InvalidFrame
from throughline.wire.octets import read_number, write_number

KINDS = {"open": 1, "octets": 2, "permit": 3, "end": 4, "reset": 5}
WORDS = {1: "open", 2: "octets", 3: "permit", 4: "end", 5: "reset"}
# The kind and the channel; the count of octets, the amount or the code behind them.
HEAD = 3
LONG_HEAD = 5


def write_frame(frame):
    """Returns the octets of the frame."""
    octets = [KINDS[frame[0]], *write_number(frame[1], 2)]
    if frame[0] == "octets":
        return [*octets, *write_number(len(frame[2]), 2), *frame[2]]
    if frame[0] in ("permit", "reset"):
        return [*octets, *write_number(frame[2], 2)]
    return octets


def first_frame(octets):
    """Returns the frame that the octets begin with and the number of its octets, or None if it is not whole."""
    return frame_at(octets, 0)


def frame_at(octets, at):
    """Returns the frame that begins at the index and the number of its octets, or None if it is not whole."""
    if len(octets) < at + HEAD:
        return None
    if octets[at] not in WORDS:
        raise InvalidFrame(f"no frame is of kind {octets[at]}")
    word = WORDS[octets[at]]
    channel = read_number(octets[at + 1:at + HEAD])
    if word in ("open", "end"):
        return (word, channel), HEAD
    if len(octets) < at + LONG_HEAD:
        return None
    number = read_number(octets[at + HEAD:at + LONG_HEAD])
    if word != "octets":
        return (word, channel, number), LONG_HEAD
    stop = at + LONG_HEAD + number
    if len(octets) < stop:
        return None
    return (word, channel, octets[at + LONG_HEAD:stop]), LONG_HEAD + number
