"""Records of segments between two ends, for the tests of what is judged and analysed."""

from throughline.host.packet import Packet
from throughline.net.records import Record
from throughline.wire.encoding import encode
from throughline.wire.segment import Segment

# The first numbers of the directions of A and B.
FIRST_A, FIRST_B = 1000, 4294967290


def packet(sender, target, segment, *, marked=False):
    return Packet(sender, target, encode(sender, target, segment), marked=marked)


class Talk:
    """Makes the records of two ends: A has the address 1, the port 70 and the count 5, B has 2, 80 and 9.

    Offsets and not wire numbers are given for seq and ack. A segment has the window of the talk unless it is given one."""

    def __init__(self):
        self.records = []
        self.number = 0
        self.tick = 0
        self.window = 1000

    def segment_a(self, seq=0, ack=None, **parts):
        if ack is not None:
            parts["ack"] = (FIRST_B + ack) % 4294967296
        return Segment(70, 80, **{"seq": (FIRST_A + seq) % 4294967296, "count": 5, "echo": 9, "window": self.window,
                                 **parts})

    def segment_b(self, seq=0, ack=None, **parts):
        if ack is not None:
            parts["ack"] = (FIRST_A + ack) % 4294967296
        return Segment(80, 70, **{"seq": (FIRST_B + seq) % 4294967296, "count": 9, "echo": 5, "window": self.window,
                                 **parts})

    def add(self, given, word="sent", number=None):
        """Adds a record of a packet: of a new one, or of the last one that was sent and is equal, if there is one."""
        if number is None:
            number = self.number
            if word != "sent":
                numbers = [record.number for record in self.records if record.word == "sent" and record.packet == given]
                number = numbers[-1] if numbers else number
        self.records.append(Record(self.tick, number, word, given))
        if word == "sent":
            self.number += 1
        return self

    def a(self, word="sent", **parts):
        return self.add(packet(1, 2, self.segment_a(**parts)), word)

    def b(self, word="sent", **parts):
        return self.add(packet(2, 1, self.segment_b(**parts)), word)

    def both(self, name, **parts):
        """A segment of "a" or "b" that is sent and delivered at once."""
        getattr(self, name)("sent", **parts)
        return getattr(self, name)("delivered", **parts)

    def at(self, tick):
        self.tick = tick
        return self

    def open(self, *, scale_a=None, scale_b=None, window=1000):
        """Both SYNs are sent and delivered, and acknowledged."""
        self.window = window
        self.both("a", syn=True, echo=None, scale=scale_a)
        self.both("b", syn=True, ack=1, scale=scale_b)
        return self.both("a", seq=1, ack=1)


def problems(found, index=None):
    """The problems among findings, of one record or of all."""
    return [finding.problem for finding in found if index is None or finding.index == index]
