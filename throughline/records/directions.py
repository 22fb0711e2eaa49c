"""Directions: what goes from a port to a port with one count (points 124 to 126, 128 and 130)."""

from throughline.errors import DamagedSegment
from throughline.offsets.circle import unwrap
from throughline.offsets.sets import OffsetSet
from throughline.wire.encoding import decode


class Direction:
    """What is known of a direction; at the beginning, nothing."""

    def __init__(self, sender, source, target, target_port, count):
        self.sender = sender
        self.source = source
        self.target = target
        self.target_port = target_port
        self.count = count
        self.first_number = None
        self.scale = None
        self.end = None
        self.octets = []
        self.delivered = OffsetSet()
        # The greatest edges that its sender was told, and that its sender has told.
        self.edge = 0
        self.told = 0

    @property
    def arrived(self):
        ranges = list(self.delivered)
        if len(ranges) == 0 or ranges[0][0] > 0:
            return 0
        return min(ranges[0][1] - 1, len(self.octets))

    def offset_of(self, number):
        """Returns the offset that the wire number is read as, or None."""
        if self.first_number is None:
            return None
        return unwrap(self.first_number, len(self.octets) + 1, number)

    def start_of(self, segment):
        """Returns the offset at which the segment begins, or None."""
        return 0 if segment.syn else self.offset_of(segment.seq)


class Reading:
    """A segment of a direction, and what it says of the reverse direction by what was known before its record."""

    def __init__(self, segment, direction, opposite):
        self.segment = segment
        self.direction = direction
        # The reverse direction, or None if it has none or nothing is known of it.
        self.opposite = opposite
        # The offset that it acknowledges and its edge, or None; and its unit.
        self.acknowledged = None
        self.edge = None
        self.unit = 1
        if opposite is not None and segment.ack is not None:
            self.acknowledged = opposite.offset_of(segment.ack)
        if opposite is not None and opposite.scale is not None and not segment.syn:
            self.unit = 1 << (0 if direction.scale is None else direction.scale)
        if self.acknowledged is not None:
            self.edge = self.acknowledged + segment.window * self.unit

    def take_delivery(self):
        """Learns that the segment was delivered."""
        start = self.direction.start_of(self.segment)
        if start is not None:
            self.direction.delivered.include(start, start + self.segment.size)
        if self.acknowledged is not None:
            opposite = self.opposite
            opposite.edge = max(opposite.edge, self.edge)


class Directions:
    """All directions of which anything is known."""

    def __init__(self):
        # By tuples of what makes a direction.
        self._by_place = {}

    def read(self, packet, segment):
        """Returns the reading of the segment, which is not a reset."""
        direction = self._at((packet.sender, segment.source, packet.target, segment.target, segment.count))
        opposite = None
        if segment.echo is not None:
            place = (packet.target, segment.target, packet.sender, segment.source, segment.echo)
            opposite = self._by_place.get(place)
        return Reading(segment, direction, opposite)

    def _at(self, place):
        if place not in self._by_place:
            sender, source, target, target_port, count = place
            self._by_place[place] = Direction(sender, source, target, target_port, count)
        return self._by_place[place]


def segment_of(packet):
    """Returns the segment that the packet carries, or None."""
    try:
        return decode(packet.sender, packet.target, packet.octets)
    except DamagedSegment:
        return None
