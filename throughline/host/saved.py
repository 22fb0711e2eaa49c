"""Hosts saved as text (points 136 and 139 to 141)."""

from throughline.errors import InvalidOptions, InvalidText
from throughline.host.codes import CodeReader
from throughline.host.host import Host
from throughline.host.parts import next_options, next_packet, next_socket, options_code, packet_code, socket_code
from throughline.wire.numbers import read_decimal

FIRST_LINE = "throughline host 1"
MOST_DIGITS = 4000


def save_host(host):
    """Returns the text of the host."""
    listeners, sockets, packets = host.listeners(), host.created(), host.untaken()
    codes = [[host.address, *options_code(host.options), host.counter, host.now, len(listeners), len(sockets),
              len(packets)]]
    codes.extend([[port, backlog] for port, backlog in listeners])
    codes.extend([socket_code(socket) for socket in sockets])
    codes.extend([packet_code(packet) for packet in packets])
    lines = [" ".join([str(number) for number in code]) for code in codes]
    return "".join([line + "\n" for line in [FIRST_LINE, *lines]])


def load_host(text):
    """Returns the host that has this text."""
    lines = Lines(text)
    if lines.take() != FIRST_LINE:
        raise InvalidText(1)
    reader = lines.take_code()
    host = _next_host(reader)
    listener_count, socket_count, packet_count = reader.number(), reader.number(), reader.number()
    reader.finish()
    listeners = _take_listeners(lines, listener_count)
    sockets = _take_sockets(lines, socket_count, host.options)
    packets = _take_packets(lines, packet_count)
    lines.finish()
    host.resume(listeners, sockets, packets)
    return host


class Lines:
    """The lines of a text, one after another."""

    def __init__(self, text):
        # What stands behind the last newline is no line; the text is whole if it is empty.
        self._lines = text.split("\n")
        self._taken = 0

    def take(self):
        """Returns the next line."""
        if self._taken + 1 >= len(self._lines):
            raise InvalidText(self._taken + 1)
        self._taken += 1
        return self._lines[self._taken - 1]

    def take_code(self):
        """Returns a reader of the numbers of the next line."""
        numbers = [read_decimal(word, MOST_DIGITS) for word in self.take().split(" ")]
        if None in numbers:
            raise InvalidText(self._taken)
        return CodeReader(numbers, self._taken)

    def finish(self):
        """Raises InvalidText if anything is left."""
        if self._taken + 1 < len(self._lines) or self._lines[-1] != "":
            raise InvalidText(self._taken + 1)


def _next_host(reader):
    """Returns a host with what the second line says of it, but for the counts behind it."""
    address = reader.number()
    try:
        options = next_options(reader)
    except InvalidOptions:
        raise InvalidText(reader.line) from None
    host = Host(address, options)
    host.counter = reader.number()
    host.now = reader.number()
    return host


def _take_listeners(lines, count):
    """Returns the backlogs of the listeners by their ports."""
    listeners = {}
    for _ in range(count):
        reader = lines.take_code()
        port, backlog = reader.number(), reader.number()
        if port in listeners:
            raise InvalidText(reader.line)
        reader.finish()
        listeners[port] = backlog
    return listeners


def _take_sockets(lines, count, options):
    sockets = []
    for _ in range(count):
        reader = lines.take_code()
        sockets.append(next_socket(reader, options))
        reader.finish()
    return sockets


def _take_packets(lines, count):
    packets = []
    for _ in range(count):
        reader = lines.take_code()
        packets.append(next_packet(reader))
        reader.finish()
    return packets
