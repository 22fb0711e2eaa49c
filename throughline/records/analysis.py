"""The analysis of records: what each direction did, and what held it up (points 142 to 148)."""

from throughline.offsets.circle import CIRCLE
from throughline.records.judge import ConnectionJudge

# What can hold a direction up; of several with as many ticks, the first one counts.
HOLDERS = ("window", "net", "sender")


def analyse(records):
    """Returns the reports of the directions in which segments were sent, a list of dicts."""
    judge = ConnectionJudge()
    views = {}
    for record in records:
        _, reading = judge.take(record)
        if reading is not None:
            own = View(record.tick, record.word, reading.segment)
            start = reading.direction.start_of(reading.segment)
            own.start = 0 if start is None else start
            views.setdefault(reading.direction, []).append(own)
            if record.word == "delivered" and reading.acknowledged is not None:
                back = View(record.tick, "back", reading.segment)
                back.offset = reading.acknowledged
                back.edge = reading.edge
                views.setdefault(reading.opposite, []).append(back)
    return [_report(direction, views[direction]) for direction in judge.sent_directions()]


class View:
    """What a record shows of a direction; its word is the one of the record, or "back" for the reverse direction."""

    def __init__(self, when, word, segment):
        self.when = when
        self.word = word
        self.segment = segment
        self.start = 0
        # What a back view acknowledges, and its edge.
        self.offset = 0
        self.edge = 0


class Progress:
    """Takes the views of a direction, one after another, and knows how far it has come."""

    def __init__(self):
        self.top = 0
        self.acknowledged = 0
        self.told_edge = 0
        self.greatest_flight = 0
        self.longest_stall = 0
        self.again = 0
        self.disorder = 0
        self.trips = []
        self._wait_began = 0
        # The greatest start of what was delivered.
        self._delivered = 0

    def in_flight(self):
        return max(0, self.top - self.acknowledged)

    def holder(self, greatest):
        """Returns what holds the direction up now; greatest is the size of the greatest segment."""
        if self.top <= self.acknowledged:
            return "sender"
        return "window" if self.told_edge < self.top + greatest else "net"

    def take(self, view):
        """Takes the next view."""
        flight_before, acknowledged_before = self.in_flight(), self.acknowledged
        if flight_before > 0:
            self.longest_stall = max(self.longest_stall, view.when - self._wait_began)
        if view.word == "sent":
            self._take_sent(view)
        elif view.word == "delivered":
            self._take_delivered(view)
        elif view.word == "back":
            self._take_back(view)
        if flight_before == 0 or self.acknowledged > acknowledged_before:
            self._wait_began = view.when
        self.greatest_flight = max(self.greatest_flight, self.in_flight())

    def _take_sent(self, view):
        size = view.segment.size
        if size > 0 and view.start + size <= self.top:
            self.again += 1
        self.top = max(self.top, view.start + size)

    def _take_delivered(self, view):
        if view.segment.size > 0:
            if view.start < self._delivered:
                self.disorder += 1
            self._delivered = max(self._delivered, view.start)

    def _take_back(self, view):
        stamp = view.segment.stamp
        if view.offset > self.acknowledged and stamp is not None and stamp[1] != 0:
            self.trips.append((view.when - stamp[1]) % CIRCLE)
        self.acknowledged = max(self.acknowledged, view.offset)
        self.told_edge = max(self.told_edge, view.edge)


def _report(direction, views):
    sent = [view.segment for view in views if view.word == "sent"]
    greatest = max([len(segment.data) for segment in sent])
    progress = Progress()
    held = {holder: 0 for holder in HOLDERS}
    for at, view in enumerate(views):
        if at > 0:
            held[progress.holder(greatest)] += view.when - views[at - 1].when
        progress.take(view)
    holders = _holders(held)
    return {
        "sender": direction.sender,
        "source": direction.source,
        "target": direction.target,
        "target_port": direction.target_port,
        "count": direction.count,
        "octets": len(direction.octets),
        "arrived": direction.arrived,
        "segments": len(sent),
        "data": sum([len(segment.data) for segment in sent]),
        "empty": len([segment for segment in sent if segment.size == 0]),
        "again": progress.again,
        "disorder": progress.disorder,
        "lost": len([view for view in views if view.word in ("lost", "expired")]),
        "marked": len([view for view in views if view.word == "marked"]),
        "zero_windows": len([segment for segment in sent if segment.ack is not None and segment.window == 0]),
        "flight": progress.greatest_flight,
        "stall": progress.longest_stall,
        "trips": progress.trips,
        "ticks": views[-1].when - views[0].when,
        **holders,
    }


def _holders(held):
    """Returns the end of a report: the ticks of each holder, and the one with the most."""
    limit = HOLDERS[0]
    for holder in HOLDERS[1:]:
        if held[holder] > held[limit]:
            limit = holder
    return {"window_ticks": held["window"], "net_ticks": held["net"], "sender_ticks": held["sender"], "limit": limit}
