"""Hosts, and packets that go between them at once, for the tests of hosts and nets."""

from tests.endpoints import options, state
from throughline.host.host import Host
from throughline.wire.encoding import decode

SOCKET_FIELDS = ("count", "port", "peer", "peer_port", "peer_count", "peer_first", "peer_shift", "listened", "accepted")


def host(address, **changed):
    return Host(address, options(**changed))


def host_state(given):
    """Everything that a host shows; its packets are taken from a fork of it."""
    sockets = []
    for count in given.sockets:
        socket = given.find(count)
        sockets.append(([getattr(socket, name) for name in SOCKET_FIELDS], state(socket.endpoint)))
    other = given.fork()
    packets = other.take()
    backlogs = []
    for port in range(1, 100):
        if other.unlisten(port):
            backlogs.append(port)
    return given.address, given.options, given.counter, given.now, sockets, backlogs, packets


def segments(packets):
    return [decode(packet.sender, packet.target, packet.octets) for packet in packets]


def settle(*hosts):
    """Delivers all packets, and those that are sent then, until there are none."""
    moved = True
    while moved:
        moved = False
        for one in hosts:
            for packet in one.take():
                moved = True
                for other in hosts:
                    other.receive(packet)


def joined(**changed):
    """Two hosts, 1 and 2, with an open connection from the port 70 of the first to the port 80 of the second."""
    one, two = host(1, **changed), host(2, **changed)
    two.listen(80)
    one.connect(70, 2, 80)
    settle(one, two)
    assert two.accept(80) == 1
    return one, two
