"""What happens to packets, judged (point 123)."""

from throughline.records.findings import Finding

TICK_BACK = "the tick goes back"
WRONG_NUMBER = "the number is not the next one"
NOT_UNDER_WAY = "the packet is not under way"
OTHER_PACKET = "the packet is not the one that was sent"
TOO_YOUNG = "the packet is too young to expire"
TOO_OLD = "the packet is too old"


def judge_packets(records, *, life):
    """Returns the findings about packets, in the order of the records."""
    judge = PacketJudge(life)
    findings = []
    for index, record in enumerate(records):
        findings.extend([Finding(index, problem) for problem in judge.problems_of(record)])
    return findings


class PacketJudge:
    """Takes records, one after another, and knows which packets are under way."""

    def __init__(self, life):
        self._life = life
        # The tick of the record before, and the number of the last record "sent".
        self._tick_before = None
        self._last = -1
        # By numbers: the first record "sent", and how many copies are under way.
        self._first = {}
        self._copies = {}

    def problems_of(self, record):
        """Returns the problems of the next record, and learns from it."""
        problems = []
        if self._tick_before is not None and record.tick < self._tick_before:
            problems.append(TICK_BACK)
        if record.word != "sent":
            problems.extend(self._problems_under_way(record))
        elif record.number != self._last + 1:
            problems.append(WRONG_NUMBER)
        self._learn(record)
        return problems

    def _problems_under_way(self, record):
        first = self._first.get(record.number)
        if first is None:
            return [NOT_UNDER_WAY]
        problems = []
        if self._copies[record.number] == 0:
            problems.append(NOT_UNDER_WAY)
        if not _is_same(first.packet, record.packet):
            problems.append(OTHER_PACKET)
        if record.word == "expired" and record.tick <= first.tick + self._life:
            problems.append(TOO_YOUNG)
        if record.word != "expired" and record.tick > first.tick + self._life:
            problems.append(TOO_OLD)
        return problems

    def _learn(self, record):
        number = record.number
        self._tick_before = record.tick
        copies = self._copies.get(number, 0)
        if record.word == "sent":
            self._last = number
            if number not in self._first:
                self._first[number] = record
                self._copies[number] = copies + 1
        elif record.word == "copied":
            self._copies[number] = copies + 1
        elif record.word != "marked":
            self._copies[number] = max(0, copies - 1)


def _is_same(first, packet):
    """Returns whether the packet can be the first one, which may have been marked since."""
    if (first.sender, first.target, first.octets) != (packet.sender, packet.target, packet.octets):
        return False
    return packet.marked or not first.marked
