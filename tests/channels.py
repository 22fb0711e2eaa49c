"""Sides of channels, for their tests."""

from throughline.carried.channels import Channels
from throughline.carried.frames import first_frame, write_frame


def side(first=True, window=10, most=4):
    return Channels(first=first, window=window, most=most)


def octets_of(*frames):
    return [octet for frame in frames for octet in write_frame(frame)]


def frames_of(octets):
    """The frames that the octets consist of."""
    frames, at = [], 0
    while at < len(octets):
        frame, size = first_frame(octets[at:])
        frames.append(frame)
        at += size
    return frames


def tell(given, *frames):
    """Gives frames to a side."""
    given.receive(octets_of(*frames))


def said(given, count=100000):
    """The frames that the side hands out."""
    return frames_of(given.take(count))


def exchange(one, other):
    """Carries octets both ways until nothing is left."""
    while True:
        there, back = one.take(1000), other.take(1000)
        if not there and not back:
            return
        other.receive(there)
        one.receive(back)


def opened(number=1, credit=0, window=10, most=4):
    """The first side with its first channel, of which the other side has been told, and with credit; nothing waits."""
    given = side(True, window, most)
    assert given.open_channel() == number
    if credit:
        tell(given, ("permit", number, credit))
    assert said(given) == [("open", number), ("permit", number, window)]
    return given
