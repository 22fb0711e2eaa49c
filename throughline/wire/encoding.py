"""The written form of a segment (points 12 and 16 to 18)."""

from throughline.errors import DamagedSegment
from throughline.wire.checksum import checksum, is_intact
from throughline.wire.octets import read_number, write_number
from throughline.wire.options import read_options, write_options
from throughline.wire.segment import Segment

HEADER_SIZE = 20

CUT = 128
MARKED = 64
ACK = 16
DATA = 8
RESET = 4
SYN = 2
FIN = 1


def encode(sender, target, segment):
    """Returns the octets of the written segment, with the checksum for the two addresses."""
    options = write_options(segment)
    octets = [*_write_header(segment, len(options)), *options, *segment.data]
    octets[16:18] = write_number(checksum(sender, target, octets), 2)
    return octets


def decode(sender, target, octets):
    """Returns the segment that the octets are read as, or raises DamagedSegment."""
    _check_header(sender, target, octets)
    start = _data_start(octets)
    options = read_options(octets[HEADER_SIZE:start])
    if options["count"] is None:
        raise DamagedSegment("no count")
    flags = octets[13]
    return Segment(
        read_number(octets[0:2]), read_number(octets[2:4]), seq=read_number(octets[4:8]),
        ack=read_number(octets[8:12]) if flags & ACK else None,
        cut=(flags & CUT) != 0, marked=(flags & MARKED) != 0, reset=(flags & RESET) != 0,
        syn=(flags & SYN) != 0, fin=(flags & FIN) != 0, window=read_number(octets[14:16]),
        mss=options["mss"], scale=options["scale"], ranges_known=options["ranges_known"],
        ranges=options["ranges"], stamp=options["stamp"], count=options["count"], echo=options["echo"],
        data=octets[start:])


def _write_header(segment, options_size):
    """Returns the header with a checksum of 0."""
    return [
        *write_number(segment.source, 2),
        *write_number(segment.target, 2),
        *write_number(segment.seq, 4),
        *write_number(0 if segment.ack is None else segment.ack, 4),
        16 * ((HEADER_SIZE + options_size) // 4),
        _flags(segment),
        *write_number(segment.window, 2),
        *write_number(0, 2),
        *write_number(0, 2),
    ]


def _flags(segment):
    return (CUT * int(segment.cut) + MARKED * int(segment.marked) + ACK * int(segment.ack is not None)
            + DATA * int(len(segment.data) > 0) + RESET * int(segment.reset) + SYN * int(segment.syn)
            + FIN * int(segment.fin))


def _data_start(octets):
    return 4 * (octets[12] // 16)


def _check_header(sender, target, octets):
    if len(octets) < HEADER_SIZE:
        raise DamagedSegment("too short")
    if not is_intact(sender, target, octets):
        raise DamagedSegment("wrong checksum")
    if not HEADER_SIZE <= _data_start(octets) <= len(octets):
        raise DamagedSegment("wrong header size")
    if read_number(octets[0:2]) == 0 or read_number(octets[2:4]) == 0:
        raise DamagedSegment("no port")
