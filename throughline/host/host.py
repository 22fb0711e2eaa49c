"""Hosts: many sockets at one address (points 80 to 91)."""

from throughline.endpoint.endpoint import Endpoint
from throughline.errors import (
    AlreadyFinished, ConnectionEnded, DamagedSegment, InvalidAmount, InvalidPort, NotEnded, OwnAddress, SocketInUse,
    TickInThePast, TooManySockets, UnknownSocket)
from throughline.host.packet import Packet
from throughline.host.socket import Socket, agreed_values
from throughline.offsets.circle import CIRCLE
from throughline.offsets.piece import Piece
from throughline.wire.encoding import decode, encode
from throughline.wire.segment import Segment

MOST_SOCKETS = 32
GREATEST_COUNT = 4294967295
GREATEST_PORT = 65535
GREATEST_BACKLOG = 32


class Host:
    """Takes calls of applications, packets and ticks, and hands out packets."""

    def __init__(self, address, options):
        self.address = address
        self.options = options.fork()
        self.counter = 0
        self.now = 0
        # The backlogs of the listeners by their ports, in the order in which they were created.
        self._listeners = {}
        # In the order in which they were created.
        self._sockets = []
        self._packets = []

    @property
    def sockets(self):
        return sorted([socket.count for socket in self._sockets])

    # Calls of applications.

    def connect(self, port, peer, peer_port):
        """Opens a connection, and returns the count of its socket."""
        _check_port(port)
        _check_port(peer_port)
        if self._is_full():
            raise TooManySockets("the host can have no more sockets")
        if peer == self.address and peer_port == port:
            raise OwnAddress("a socket cannot be its own peer")
        for socket in self._sockets:
            if (socket.port, socket.peer, socket.peer_port) == (port, peer, peer_port):
                if not socket.endpoint.has_ended:
                    raise SocketInUse(f"socket {socket.count} has this port and this peer")
        socket = self._create(port, peer, peer_port, Endpoint(self.options, self.now), False)
        self._send(socket)
        return socket.count

    def listen(self, port, *, backlog=8):
        """Lets connections be opened to the port."""
        _check_port(port)
        if not 1 <= backlog <= GREATEST_BACKLOG:
            raise InvalidAmount(f"a backlog of {backlog}")
        if port in self._listeners:
            raise SocketInUse(f"there is a listener on port {port}")
        self._listeners[port] = backlog

    def unlisten(self, port):
        """Removes the listener on the port, and returns whether there was one."""
        return self._listeners.pop(port, None) is not None

    def accept(self, port):
        """Returns the count of the first open socket of the port that was not accepted, or None."""
        for socket in self._sockets:
            if socket.port == port and socket.listened and not socket.accepted and socket.endpoint.is_open:
                socket.accepted = True
                return socket.count
        return None

    def write(self, socket, octets):
        """Returns how many octets were taken."""
        found = self._living(socket)
        if found.endpoint.sender.finished:
            raise AlreadyFinished(f"socket {socket} has finished")
        taken = found.endpoint.write(octets)
        self._send(found)
        return taken

    def read(self, socket, count):
        """Returns the next octets, at most count."""
        found = self._known(socket)
        if count < 0:
            raise InvalidAmount(f"a count of {count}")
        octets = found.endpoint.read(count)
        self._send(found)
        return octets

    def finish(self, socket):
        """Says that nothing more will be written; returns False if that was said before."""
        found = self._living(socket)
        if found.endpoint.sender.finished:
            return False
        found.endpoint.finish()
        self._send(found)
        return True

    def abort(self, socket):
        """Ends a connection at once; returns False if it had ended before."""
        found = self._known(socket)
        if found.endpoint.has_ended:
            return False
        found.endpoint.abort()
        self._send(found)
        return True

    def release(self, socket):
        """Forgets a socket that has ended."""
        found = self._known(socket)
        if not found.endpoint.has_ended:
            raise NotEnded(f"socket {socket} has not ended")
        self._sockets = [other for other in self._sockets if other.count != socket]

    def peer_of(self, socket):
        """Returns the address, the port and the count of the peer, or None if it is not known."""
        found = self._known(socket)
        if found.peer_count is None:
            return None
        return found.peer, found.peer_port, found.peer_count

    def status(self, socket):
        """Returns a dict of what there is to know of a socket."""
        found = self._known(socket)
        endpoint = found.endpoint
        return {
            "phase": endpoint.phase,
            "cause": endpoint.cause,
            "port": found.port,
            "peer": found.peer,
            "peer_port": found.peer_port,
            "peer_count": found.peer_count,
            "readable": endpoint.receiver.ready,
            "at_end": endpoint.receiver.at_end,
            "writable": 0 if endpoint.has_ended else endpoint.sender.free,
            "unacknowledged": endpoint.flight,
            "window": endpoint.control.cwnd,
            "timeout": endpoint.timeout,
        }

    def find(self, count):
        """Returns the socket with this count, or None."""
        for socket in self._sockets:
            if socket.count == count:
                return socket
        return None

    # Packets and ticks.

    def receive(self, packet):
        """Takes a packet of the network."""
        if packet.target != self.address:
            return
        try:
            segment = decode(packet.sender, packet.target, packet.octets)
        except DamagedSegment:
            return
        sender = packet.sender
        socket = self._taker(segment, sender)
        if socket is not None:
            if socket.take_segment(segment, self.now, marked=packet.marked):
                self._send(socket)
        elif self._is_listened_for(segment):
            if self._has_room(segment.target):
                self._answer(segment, sender)
        elif not segment.reset:
            self._refuse(segment, sender)

    def tick(self, now):
        """Tells the host the present tick."""
        if now < self.now:
            raise TickInThePast(f"{now} is behind {self.now}")
        self.now = now
        for socket in self._sockets:
            socket.endpoint.tick(now)
            self._send(socket)

    def take(self):
        """Returns the packets that were not taken."""
        packets = self._packets
        self._packets = []
        return packets

    def restart(self):
        """Forgets everything but the address, the options, the counter and the tick."""
        self._listeners = {}
        self._sockets = []
        self._packets = []

    def fork(self):
        """Returns an equal host that goes on alone."""
        other = Host(self.address, self.options)
        other.counter = self.counter
        other.now = self.now
        other.resume(self._listeners, [socket.fork() for socket in self._sockets], self._packets)
        return other

    def listeners(self):
        """Returns the pairs of a port and a backlog, in the order in which the listeners were created."""
        return list(self._listeners.items())

    def created(self):
        """Returns the sockets in the order in which they were created."""
        return list(self._sockets)

    def untaken(self):
        """Returns the packets that were not taken, and does not take them."""
        return [packet.fork() for packet in self._packets]

    def resume(self, listeners, sockets, packets):
        """Goes on with the listeners, as a dict of backlogs by ports, the sockets and the packets of another host."""
        self._listeners = dict(listeners)
        self._sockets = list(sockets)
        self._packets = [packet.fork() for packet in packets]

    def _known(self, count):
        socket = self.find(count)
        if socket is None:
            raise UnknownSocket(f"no socket {count}")
        return socket

    def _living(self, count):
        socket = self._known(count)
        if socket.endpoint.has_ended:
            raise ConnectionEnded(f"socket {count} has ended")
        return socket

    def _is_full(self):
        return len(self._sockets) >= MOST_SOCKETS or self.counter >= GREATEST_COUNT

    def _create(self, port, peer, peer_port, endpoint, listened):
        self.counter += 1
        socket = Socket(self.counter, port, peer, peer_port, endpoint, listened=listened)
        self._sockets.append(socket)
        return socket

    def _send(self, socket):
        for segment in socket.output(self.now):
            self._send_segment(socket.peer, segment)

    def _send_segment(self, target, segment):
        self._packets.append(Packet(self.address, target, encode(self.address, target, segment)))

    def _taker(self, segment, sender):
        for socket in self._sockets:
            if socket.is_for(segment, sender):
                return socket
        return None

    def _is_listened_for(self, segment):
        if not segment.syn or segment.reset or segment.ack is not None or segment.echo is not None:
            return False
        return segment.target in self._listeners

    def _has_room(self, port):
        waiting = [socket for socket in self._sockets if socket.port == port and socket.listened
                   and not socket.accepted and not socket.endpoint.has_ended]
        return len(waiting) < self._listeners[port] and not self._is_full()

    def _answer(self, segment, sender):
        """Creates a socket that answers a SYN; nothing else of the segment is taken."""
        mss, selective = agreed_values(self.options, segment)
        piece = Piece(0, syn=True, stamp=segment.stamp)
        endpoint = Endpoint.answering(self.options, self.now, piece, mss=mss, selective=selective)
        socket = self._create(segment.target, sender, segment.source, endpoint, True)
        socket.learn(segment)
        self._send(socket)

    def _refuse(self, segment, sender):
        """Answers a segment that is for no socket by a reset."""
        seq = 0 if segment.ack is None else segment.ack
        count = 0 if segment.echo is None else segment.echo
        self._send_segment(sender, Segment(segment.target, segment.source, seq=seq, count=count, echo=segment.count,
                                           ack=(segment.seq + segment.size) % CIRCLE, reset=True))


def _check_port(port):
    if not 1 <= port <= GREATEST_PORT:
        raise InvalidPort(f"no port: {port}")
