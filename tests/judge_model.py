"""A second writing of points 124 to 130 and 142 to 148, for the tests of the judge and the analysis.

It keeps plain dicts and sets, and looks at what it knows anew at each step."""

from throughline.errors import DamagedSegment
from throughline.wire.encoding import decode

NO_SEGMENT = "the packet is not a segment"
BEFORE = "octets before these were not sent"
OTHER_OCTETS = "other octets were sent at these places"
OTHER_END = "the end is elsewhere"
BEYOND = "octets beyond the window"
TOO_MUCH = "more is acknowledged than was delivered"
WINDOW_BACK = "the window goes back"


def read_near(first, near, number):
    """Point 21, by looking at three candidates."""
    base = number - first
    base += (near - base) // 2 ** 32 * 2 ** 32
    for x in (base - 2 ** 32, base, base + 2 ** 32):
        if near - 2 ** 31 <= x <= near + 2 ** 31 - 1:
            return x if x >= 0 else None
    raise AssertionError("no candidate")


def segment_or_none(packet):
    try:
        return decode(packet.sender, packet.target, packet.octets)
    except DamagedSegment:
        return None


class JudgeModel:
    def __init__(self):
        self.known = {}
        self.order = []

    def of(self, key):
        return self.known.get(key) or {"first": None, "scale": None, "octets": [], "end": None, "delivered": set(),
                                       "edge": 0, "told": 0}

    def keys(self, packet, segment):
        own = (packet.sender, segment.source, packet.target, segment.target, segment.count)
        back = (packet.target, segment.target, packet.sender, segment.source, segment.echo)
        return own, None if segment.echo is None else back

    def acknowledged(self, packet, segment):
        """The offset and the edge, or None and None; and the unit."""
        own, back = self.keys(packet, segment)
        if segment.ack is None or back is None or self.of(back)["first"] is None:
            return None, None, 1
        other = self.of(back)
        offset = read_near(other["first"], len(other["octets"]) + 1, segment.ack)
        unit = 1 if segment.syn or other["scale"] is None else 2 ** (self.of(own)["scale"] or 0)
        return offset, None if offset is None else offset + segment.window * unit, unit

    def start(self, key, segment):
        if segment.syn:
            return 0
        known = self.of(key)
        if known["first"] is None:
            return None
        return read_near(known["first"], len(known["octets"]) + 1, segment.seq)

    def take(self, record):
        """Returns the problems of the record."""
        segment = segment_or_none(record.packet)
        if segment is None:
            return [NO_SEGMENT] if record.word == "sent" else []
        if segment.reset or record.word not in ("sent", "delivered"):
            return []
        own, back = self.keys(record.packet, segment)
        offset, edge, unit = self.acknowledged(record.packet, segment)
        reverse = self.of(back)
        reached = set(reverse["delivered"])
        mine = self.known.setdefault(own, self.of(own))
        if record.word == "delivered":
            start = self.start(own, segment)
            if start is not None:
                mine["delivered"] |= set(range(start, start + segment.size))
            if offset is not None:
                reverse["edge"] = max(reverse["edge"], edge)
            return []
        if own not in self.order:
            self.order.append(own)
        if segment.syn and mine["first"] is None:
            mine["first"], mine["scale"] = segment.seq, segment.scale
        start = self.start(own, segment)
        if start is None:
            return [BEFORE]
        return self.steps(segment, mine, start + (1 if segment.syn else 0), (offset, edge, unit), reached)

    def steps(self, segment, mine, place, told, reached):
        found, data, octets = [], segment.data, mine["octets"]
        before = len(octets)
        if data and (place == 0 or place > before + 1):
            found.append(BEFORE)
        elif data:
            for at, octet in enumerate(data):
                if place + at <= before:
                    if octets[place + at - 1] != octet and OTHER_OCTETS not in found:
                        found.append(OTHER_OCTETS)
                else:
                    octets.append(octet)
        end = place + len(data)
        wrong = False
        if segment.fin:
            if mine["end"] is None:
                mine["end"] = end
            wrong = mine["end"] != end
        if wrong or (mine["end"] is not None and mine["end"] < len(octets) + 1):
            found.append(OTHER_END)
        if len(octets) > before and mine["edge"] <= len(octets):
            found.append(BEYOND)
        offset, edge, unit = told
        if offset is not None:
            if gap(reached) < offset:
                found.append(TOO_MUCH)
            if not segment.syn and edge + unit <= mine["told"]:
                found.append(WINDOW_BACK)
            mine["told"] = max(mine["told"], edge)
        return found


def gap(offsets):
    """The least offset that is not among them."""
    at = 0
    while at in offsets:
        at += 1
    return at


def arrived(known):
    return min(len(known["octets"]), gap(known["delivered"]) - 1) if 0 in known["delivered"] else 0


class AnalysisModel:
    def __init__(self, records):
        self.judge, self.views = JudgeModel(), {}
        for record in records:
            self.judge.take(record)
            segment = segment_or_none(record.packet)
            if segment is not None and not segment.reset:
                self.show(record, segment)

    def show(self, record, segment):
        own, back = self.judge.keys(record.packet, segment)
        start = self.judge.start(own, segment) or 0
        self.views.setdefault(own, []).append({"tick": record.tick, "word": record.word, "start": start,
                                               "segment": segment})
        offset, edge, _ = self.judge.acknowledged(record.packet, segment)
        if record.word == "delivered" and offset is not None:
            self.views.setdefault(back, []).append({"tick": record.tick, "word": "back", "offset": offset, "edge": edge,
                                                    "segment": segment})

    def top(self, views):
        return max([view["start"] + view["segment"].size for view in views if view["word"] == "sent"], default=0)

    def acknowledged(self, views):
        return max([view["offset"] for view in views if view["word"] == "back"], default=0)

    def told(self, views):
        return max([view["edge"] for view in views if view["word"] == "back"], default=0)

    def flight(self, views):
        return max(0, self.top(views) - self.acknowledged(views))

    def reports(self):
        return [self.report(key) for key in self.judge.order]

    def report(self, key):
        views, known = self.views[key], self.judge.of(key)
        sent = [view["segment"] for view in views if view["word"] == "sent"]
        many = range(len(views))
        stalls, began = [0], None
        for at in many:
            if self.flight(views[:at]) > 0:
                stalls.append(views[at]["tick"] - began)
            if self.flight(views[:at]) == 0 or self.acknowledged(views[:at + 1]) > self.acknowledged(views[:at]):
                began = views[at]["tick"]
        held = {"window": 0, "net": 0, "sender": 0}
        greatest = max([len(segment.data) for segment in sent], default=0)
        for at in many[1:]:
            before = views[:at]
            if self.top(before) <= self.acknowledged(before):
                holder = "sender"
            elif self.told(before) < self.top(before) + greatest:
                holder = "window"
            else:
                holder = "net"
            held[holder] += views[at]["tick"] - views[at - 1]["tick"]
        arrivals = [(at, view) for at, view in enumerate(views)
                    if view["word"] == "delivered" and view["segment"].size > 0]
        again = [at for at in many if views[at]["word"] == "sent" and views[at]["segment"].size > 0
                 and views[at]["start"] + views[at]["segment"].size <= self.top(views[:at])]
        trips = [(view["tick"] - view["segment"].stamp[1]) % 2 ** 32 for at, view in enumerate(views)
                 if view["word"] == "back" and view["offset"] > self.acknowledged(views[:at])
                 and view["segment"].stamp is not None and view["segment"].stamp[1] != 0]
        return list({
            "sender": key[0], "source": key[1], "target": key[2], "target_port": key[3], "count": key[4],
            "octets": len(known["octets"]), "arrived": arrived(known), "segments": len(sent),
            "data": sum(len(segment.data) for segment in sent),
            "empty": sum(1 for segment in sent if segment.size == 0), "again": len(again),
            "disorder": sum(1 for at, view in arrivals
                            if any(other["start"] > view["start"] for early, other in arrivals if early < at)),
            "lost": sum(1 for view in views if view["word"] in ("lost", "expired")),
            "marked": sum(1 for view in views if view["word"] == "marked"),
            "zero_windows": sum(1 for segment in sent if segment.ack is not None and segment.window == 0),
            "flight": max(self.flight(views[:at]) for at in range(len(views) + 1)), "stall": max(stalls),
            "trips": trips, "ticks": views[-1]["tick"] - views[0]["tick"], "window_ticks": held["window"],
            "net_ticks": held["net"], "sender_ticks": held["sender"],
            "limit": sorted(held, key=lambda word: (-held[word], ["window", "net", "sender"].index(word)))[0],
        }.items())
