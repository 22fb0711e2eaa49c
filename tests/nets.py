"""Nets, for the tests of nets, runs and records."""

from tests.endpoints import options
from throughline.net.net import Net
from throughline.wire.encoding import decode


def net(count=2, **changed):
    """A net of hosts with the addresses 1, 2, ..."""
    return Net([(address, options(**changed)) for address in range(1, count + 1)])


def deliver_all(given):
    """Delivers everything that is under way, and what is sent then, until nothing is."""
    while len(given.flights) > 0:
        given.do(("deliver", 0))


def joined_net(count=2, **changed):
    """A net with an open connection from the port 70 of the host 0 to the port 80 of the host 1."""
    given = net(count, **changed)
    given.do(("listen", 1, 80, 8))
    assert given.do(("connect", 0, 70, 2, 80)) == 1
    deliver_all(given)
    assert given.do(("accept", 1, 80)) == 1
    return given


def flights(given):
    return [(flight.number, flight.birth) for flight in given.flights]


def words(given, start=0):
    """The records from the index on, without their packets."""
    return [(record.tick, record.number, record.word) for record in given.records[start:]]


def segment_of(packet):
    return decode(packet.sender, packet.target, packet.octets)


def deeds(given):
    return [deed for deed, _ in given.history()]
