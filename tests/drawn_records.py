"""Records of nets, changed in many ways, for the tests of the judge and the analysis."""

from tests.nets import net
from throughline.errors import ThroughlineError
from throughline.host.packet import Packet
from throughline.net.records import Record
from throughline.net.runs import run
from throughline.wire.encoding import encode

from tests.judge_model import segment_or_none

SCRIPTS = ["", "chance 200 lose", "delay 1..9", "chance 300 copy 1; chance 200 lose; delay 1..9; chance 100 mark",
           "nth 4 delay 20..40"]


def played(draws, ticks=60, count=2, **changed):
    """A net of hosts that write to each other over a bad network."""
    given = net(count, **{"life": 30, "tries": 20, "max_rto": 60, "ack_delay": draws.choice([0, 4]),
                          "nagle": draws.random() < 0.3, "control": draws.choice(["reno", "cubic"]),
                          "room": draws.choice([200, 1000, 9000]), **changed})
    for index in range(count):
        given.do(("listen", index, 80, 32))
    at = 0
    while at < ticks:
        for _ in range(draws.randrange(12)):
            call(draws, given)
        step = draws.choice([1, 2, 5])
        run(given, draws.choice(SCRIPTS), seed=draws.randrange(1000), ticks=step)
        at += step
    return given


def call(draws, given):
    index = draws.randrange(len(given.hosts))
    sockets = given.hosts[index].sockets
    socket = draws.choice(sockets) if sockets else 0
    octets = [draws.randrange(256) for _ in range(draws.choice([0, 1, 50, 700]))]
    deed = draws.choice([("write", index, socket, octets)] * 5 + [("read", index, socket, 500)] * 4
                        + [("connect", index, 70 + draws.randrange(2), 1 + draws.randrange(len(given.hosts)), 80)] * 2
                        + [("accept", index, 80), ("finish", index, socket)])
    if draws.random() < 0.03:
        deed = draws.choice([("abort", index, socket), ("restart", index)])
    try:
        given.do(deed)
    except ThroughlineError:
        pass
    if deed[0] == "restart":
        given.do(("listen", index, 80, 32))


def changed_record(draws, record):
    """A record that is changed somewhere."""
    found = Record(record.tick, record.number, record.word, record.packet)
    segment = segment_or_none(record.packet)
    choice = draws.randrange(12)
    if choice == 0:
        found.word = draws.choice(["sent", "delivered", "lost", "copied", "marked", "expired"])
    elif choice == 1:
        found.tick = max(0, found.tick + draws.choice([-5, 5]))
    elif choice == 2 and len(found.packet.octets) > 3:
        found.packet.octets[draws.randrange(len(found.packet.octets))] ^= 1
    elif segment is not None:
        if choice == 3:
            segment.seq = (segment.seq + draws.choice([-1, 1, -50, 50, -2000, 2 ** 31])) % 2 ** 32
        elif choice == 4 and segment.ack is not None:
            segment.ack = (segment.ack + draws.choice([-1, 1, -50, 50, 2 ** 31])) % 2 ** 32
        elif choice == 5:
            segment.fin = not segment.fin
        elif choice == 6:
            segment.syn = not segment.syn
        elif choice == 7:
            segment.window = draws.choice([0, 1, segment.window // 2, 65535])
        elif choice == 8:
            segment.echo = draws.choice([None, segment.count, 1, 2])
        elif choice == 9 and segment.data:
            segment.data[draws.randrange(len(segment.data))] ^= 1
        elif choice == 10:
            segment.data = segment.data + [1] * draws.choice([1, 300])
        else:
            segment.scale = draws.choice([None, 0, 3, 14])
            segment.stamp = draws.choice([None, (5, 0), (5, 7), (5, 2 ** 32 - 2)])
        packet = record.packet
        found.packet = Packet(packet.sender, packet.target, encode(packet.sender, packet.target, segment),
                              marked=packet.marked)
    return found


def changed_records(draws, records, many):
    """Records that are changed, left out, repeated and exchanged at so many places."""
    found = list(records)
    for _ in range(many if found else 0):
        at = draws.randrange(len(found))
        choice = draws.random()
        if choice < 0.8:
            found[at] = changed_record(draws, found[at])
        elif choice < 0.87:
            del found[at]
        elif choice < 0.94:
            found.insert(draws.randrange(len(found)), found[at])
        else:
            other = draws.randrange(len(found))
            found[at], found[other] = found[other], found[at]
    return found
