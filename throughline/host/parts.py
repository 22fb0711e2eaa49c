"""The codes of endpoints, sockets and the other parts of a host (points 137 and 138)."""

from throughline.endpoint.endpoint import Endpoint
from throughline.host.codes import (
    optional_code, read_control, read_receiver, read_sender, read_trip, row_code, write_control, write_receiver,
    write_sender, write_trip)
from throughline.host.options import Options
from throughline.host.packet import Packet
from throughline.host.socket import Socket

CONTROLS = ("reno", "cubic")
PHASES = ("syn sent", "syn received", "established", "fin wait 1", "fin wait 2", "close wait", "closing", "last ack",
          "time wait", "ended")
CAUSES = ("done", "refused", "reset", "gave up", "silent", "aborted")


def options_code(options):
    """Returns the code of the options."""
    return [options.mss, options.room, options.life, options.pace, options.tries, options.min_rto, options.max_rto,
            options.ack_delay, options.keep_alive, int(options.nagle), CONTROLS.index(options.control)]


def next_options(reader):
    """Returns the options that the reader reads next; raises InvalidOptions if they are not valid."""
    numbers = [reader.number() for _ in range(9)]
    nagle = reader.flag()
    control = CONTROLS[reader.choice(len(CONTROLS))]
    mss, room, life, pace, tries, min_rto, max_rto, ack_delay, keep_alive = numbers
    return Options(mss=mss, room=room, life=life, pace=pace, tries=tries, min_rto=min_rto, max_rto=max_rto,
                   ack_delay=ack_delay, keep_alive=keep_alive, nagle=nagle, control=control)


def packet_code(packet):
    """Returns the code of the packet."""
    return [packet.sender, packet.target, int(packet.marked), *row_code(packet.octets)]


def next_packet(reader):
    """Returns the packet that the reader reads next."""
    sender, target, marked = reader.number(), reader.number(), reader.flag()
    return Packet(sender, target, reader.row(), marked=marked)


def socket_code(socket):
    """Returns the code of the socket."""
    return [socket.count, socket.port, socket.peer, socket.peer_port, *optional_code(socket.peer_count),
            *optional_code(socket.peer_first), *optional_code(socket.peer_shift), int(socket.listened),
            int(socket.accepted), *_endpoint_code(socket.endpoint)]


def next_socket(reader, options):
    """Returns the socket that the reader reads next."""
    count, port, peer, peer_port = reader.number(), reader.number(), reader.number(), reader.number()
    peer_count, peer_first, peer_shift = reader.optional(), reader.optional(), reader.optional()
    listened, accepted = reader.flag(), reader.flag()
    socket = Socket(count, port, peer, peer_port, _next_endpoint(reader, options), listened=listened)
    socket.peer_count = peer_count
    socket.peer_first = peer_first
    socket.peer_shift = peer_shift
    socket.accepted = accepted
    return socket


def _phase_code(endpoint):
    code = [PHASES.index(endpoint.phase)]
    return [*code, CAUSES.index(endpoint.cause)] if endpoint.has_ended else code


def _endpoint_code(endpoint):
    return [*_phase_code(endpoint), endpoint.mss, int(endpoint.selective), *write_sender(endpoint.sender),
            *write_receiver(endpoint.receiver), *write_trip(endpoint.trip), *write_control(endpoint.control),
            *optional_code(endpoint.alarm), endpoint.since, *optional_code(endpoint.ack_at), endpoint.late,
            int(endpoint.asked), int(endpoint.again), int(endpoint.probe), int(endpoint.over), endpoint.rest,
            endpoint.spent_at, endpoint.spent, endpoint.stamp, int(endpoint.marked), int(endpoint.cut)]


def _next_endpoint(reader, options):
    endpoint = Endpoint(options, 0)
    endpoint.phase = PHASES[reader.choice(len(PHASES))]
    if endpoint.has_ended:
        endpoint.cause = CAUSES[reader.choice(len(CAUSES))]
    endpoint.mss = reader.number()
    endpoint.selective = reader.flag()
    endpoint.sender = read_sender(reader, options.room)
    endpoint.receiver = read_receiver(reader, options.room)
    endpoint.trip = read_trip(reader, options)
    endpoint.control = read_control(reader, options)
    endpoint.alarm = reader.optional()
    endpoint.since = reader.number()
    endpoint.ack_at = reader.optional()
    endpoint.late = reader.number()
    endpoint.asked = reader.flag()
    endpoint.again = reader.flag()
    endpoint.probe = reader.flag()
    endpoint.over = reader.flag()
    endpoint.rest = reader.number()
    endpoint.spent_at = reader.number()
    endpoint.spent = reader.number()
    endpoint.stamp = reader.number()
    endpoint.marked = reader.flag()
    endpoint.cut = reader.flag()
    return endpoint
