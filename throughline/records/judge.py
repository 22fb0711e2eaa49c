"""The judge of records: packets and connections (points 122 to 130)."""

from throughline.records.directions import Directions, segment_of
from throughline.records.findings import Finding
from throughline.records.packets import PacketJudge

NO_SEGMENT = "the packet is not a segment"
NOT_SENT_BEFORE = "octets before these were not sent"
OTHER_OCTETS = "other octets were sent at these places"
OTHER_END = "the end is elsewhere"
BEYOND_WINDOW = "octets beyond the window"
NOT_DELIVERED = "more is acknowledged than was delivered"
WINDOW_BACK = "the window goes back"


def judge(records, *, life):
    """Returns all findings, in the order of the records."""
    packets = PacketJudge(life)
    connections = ConnectionJudge()
    findings = []
    for index, record in enumerate(records):
        problems = packets.problems_of(record)
        more, _ = connections.take(record)
        findings.extend([Finding(index, problem) for problem in problems + more])
    return findings


def streams(records):
    """Returns the directions in which segments were sent, as they are known behind the last record."""
    connections = ConnectionJudge()
    for record in records:
        connections.take(record)
    return connections.sent_directions()


class ConnectionJudge:
    """Takes records, one after another, and knows the directions of their segments."""

    def __init__(self):
        self._directions = Directions()
        # The directions in which a segment was sent are the keys, in the order of the first such records.
        self._sent = {}

    def take(self, record):
        """Learns from a record; returns its problems, and the reading of its segment, or None if it says nothing."""
        segment = segment_of(record.packet)
        if segment is None:
            return ([NO_SEGMENT] if record.word == "sent" else []), None
        if segment.reset:
            return [], None
        reading = self._directions.read(record.packet, segment)
        problems = []
        if record.word == "sent":
            self._sent[reading.direction] = True
            problems = _take_sent(reading)
        elif record.word == "delivered":
            reading.take_delivery()
        return problems, reading

    def sent_directions(self):
        return list(self._sent)


def _take_sent(reading):
    """Learns from a segment that was sent, and returns its problems."""
    direction, segment = reading.direction, reading.segment
    if segment.syn and direction.first_number is None:
        direction.first_number = segment.seq
        direction.scale = segment.scale
    start = direction.start_of(segment)
    if start is None:
        return [NOT_SENT_BEFORE]
    place = start + int(segment.syn)
    known = len(direction.octets)
    problems = _take_octets(direction, segment.data, place)
    if _has_wrong_end(direction, segment, place):
        problems.append(OTHER_END)
    if known < len(direction.octets) and direction.edge <= len(direction.octets):
        problems.append(BEYOND_WINDOW)
    return problems + _take_acknowledgement(reading)


def _take_octets(direction, data, place):
    """Learns octets that were sent from the place on, and returns their problems."""
    octets = direction.octets
    if len(data) == 0:
        return []
    if place == 0 or place > len(octets) + 1:
        return [NOT_SENT_BEFORE]
    again = octets[place - 1:place - 1 + len(data)]
    octets.extend(data[len(again):])
    return [] if again == data[:len(again)] else [OTHER_OCTETS]


def _has_wrong_end(direction, segment, place):
    """Learns of an end, and returns whether it is elsewhere."""
    end = place + len(segment.data)
    if segment.fin and direction.end is None:
        direction.end = end
    if segment.fin and direction.end != end:
        return True
    return direction.end is not None and direction.end <= len(direction.octets)


def _take_acknowledgement(reading):
    """Learns what the sender has told, and returns its problems."""
    if reading.acknowledged is None:
        return []
    problems = []
    if reading.opposite.delivered.first_free(0) < reading.acknowledged:
        problems.append(NOT_DELIVERED)
    direction = reading.direction
    if not reading.segment.syn and reading.edge + reading.unit <= direction.told:
        problems.append(WINDOW_BACK)
    direction.told = max(direction.told, reading.edge)
    return problems
