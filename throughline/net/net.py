"""Nets: hosts and the packets between them (points 92 to 98 and 108)."""

from throughline.errors import InvalidOptions, TickInThePast, UnknownHost
from throughline.host.host import Host
from throughline.net.deeds import CALLS, FLIGHT_DEEDS, check_deed
from throughline.net.flights import Flights
from throughline.net.ledger import Ledger
from throughline.net.records import Record


class Net:
    """Joins hosts; everything that happens in it is a deed."""

    MOST_HOSTS = 8

    def __init__(self, members):
        _check_members(members)
        self.hosts = [Host(address, options) for address, options in members]
        self.life = self.hosts[0].options.life
        self.now = 0
        self.flights = Flights(self.life)
        self.records = []
        self.ledger = Ledger()
        # The deeds, each as a pair with what it returned.
        self._past = []

    def do(self, deed):
        """Does a deed, and returns what it returns."""
        check_deed(deed)
        returned = None
        if deed[0] in CALLS:
            returned = self._call(deed)
        elif deed[0] in FLIGHT_DEEDS:
            self._change_flight(deed[0], deed[1])
        else:
            self._tick()
        self._past.append((_copy_of_deed(deed), _copy_of(returned)))
        return returned

    def history(self):
        """Yields each deed with what it returned, oldest first."""
        for deed, returned in list(self._past):
            yield _copy_of_deed(deed), _copy_of(returned)

    def fork(self):
        """Returns an equal net that goes on alone."""
        other = Net([(host.address, host.options) for host in self.hosts])
        other.hosts = [host.fork() for host in self.hosts]
        other.now = self.now
        other.flights = self.flights.fork()
        other.records = [record.fork() for record in self.records]
        other.ledger = self.ledger.fork()
        other._past = list(self._past)
        return other

    def other_end(self, host, socket):
        """Returns the index of the host and the number of the socket at the other end, or None."""
        peer = self._host(host).peer_of(socket)
        if peer is None:
            return None
        index = self._index_of(peer[0])
        return None if index is None else (index, peer[2])

    def written(self, host, socket):
        return self.ledger.written(host, socket)

    def was_read(self, host, socket):
        return self.ledger.was_read(host, socket)

    def _host(self, index):
        if not 0 <= index < len(self.hosts):
            raise UnknownHost(f"no host {index}")
        return self.hosts[index]

    def _index_of(self, address):
        for index, host in enumerate(self.hosts):
            if host.address == address:
                return index
        return None

    def _note(self, word, flight):
        self.records.append(Record(self.now, flight.number, word, flight.packet))

    def _send(self, host):
        """Sends what the host hands out."""
        for packet in host.take():
            self._note("sent", self.flights.send(packet, self.now))

    # What deeds do.

    def _call(self, deed):
        host = self._host(deed[1])
        returned = _call_host(host, deed)
        self._send(host)
        if deed[0] == "write":
            self.ledger.note_write(deed[1], deed[2], deed[3][:returned])
        elif deed[0] == "read":
            self.ledger.note_read(deed[1], deed[2], returned)
        elif deed[0] == "finish" and returned:
            self.ledger.note_finish(deed[1], deed[2])
        return returned

    def _change_flight(self, word, i):
        if word == "deliver":
            self._deliver(i)
        elif word == "lose":
            self._note("lost", self.flights.take(i))
        elif word == "copy":
            self._note("copied", self.flights.copy_of(i))
        else:
            self._note("marked", self.flights.mark(i))

    def _deliver(self, i):
        flight = self.flights.take(i)
        index = self._index_of(flight.packet.target)
        if index is None:
            self._note("lost", flight)
            return
        self._note("delivered", flight)
        self.hosts[index].receive(flight.packet)
        self._send(self.hosts[index])

    def _tick(self):
        # A host that was told a later tick by somebody else refuses this one: all are asked before any of them is told.
        if any([host.now > self.now + 1 for host in self.hosts]):
            raise TickInThePast(f"a host is ahead of {self.now + 1}")
        self.now += 1
        for flight in self.flights.expire(self.now):
            self._note("expired", flight)
        for host in self.hosts:
            host.tick(self.now)
            self._send(host)


def _check_members(members):
    if not 1 <= len(members) <= Net.MOST_HOSTS:
        raise InvalidOptions(f"{len(members)} hosts")
    addresses = [address for address, _ in members]
    for at, address in enumerate(addresses):
        if address in addresses[:at]:
            raise InvalidOptions(f"two hosts have the address {address}")
    for _, options in members:
        if options.life != members[0][1].life:
            raise InvalidOptions("the lives of two hosts differ")


def _call_host(host, deed):
    """Calls the method of the host that has the name of the deed."""
    word = deed[0]
    if word == "connect":
        return host.connect(deed[2], deed[3], deed[4])
    if word == "listen":
        return host.listen(deed[2], backlog=deed[3])
    if word == "unlisten":
        return host.unlisten(deed[2])
    if word == "accept":
        return host.accept(deed[2])
    if word == "write":
        return host.write(deed[2], deed[3])
    if word == "read":
        return host.read(deed[2], deed[3])
    if word == "finish":
        return host.finish(deed[2])
    if word == "abort":
        return host.abort(deed[2])
    if word == "release":
        return host.release(deed[2])
    return host.restart()


def _copy_of(value):
    return list(value) if isinstance(value, list) else value


def _copy_of_deed(deed):
    return tuple([_copy_of(item) for item in deed])
