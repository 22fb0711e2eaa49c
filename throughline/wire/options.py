"""The options of a segment (points 13 to 15)."""

from throughline.errors import DamagedSegment
from throughline.wire.octets import read_number, write_number
from throughline.wire.segment import Segment

END = 0
FILLER = 1
MSS = 2
SCALE = 3
RANGES_KNOWN = 4
RANGES = 5
STAMP = 8
COUNT = 253
COUNT_MARK = (83, 85)

# The lengths that the body of each kind may have; other kinds are skipped, whatever their length.
BODY_LENGTHS = {2: (2,), 3: (1,), 4: (0,), 5: (8, 16, 24, 32), 8: (8,), 253: (6, 10)}

GREATEST_SCALE = 14
# The octets for all options, less kind and size of the option of ranges.
ROOM_FOR_RANGES = 38
WRONG_OPTIONS = "wrong options"


def fitted(segment):
    """Returns a new segment, with only the ranges that fit."""
    return Segment(segment.source, segment.target, seq=segment.seq, count=segment.count, echo=segment.echo,
                   ack=segment.ack, syn=segment.syn, fin=segment.fin, reset=segment.reset, marked=segment.marked,
                   cut=segment.cut, window=segment.window, mss=segment.mss, scale=segment.scale,
                   ranges_known=segment.ranges_known, ranges=_fitting_ranges(segment), stamp=segment.stamp,
                   data=segment.data)


def write_options(segment):
    """Returns the octets of the segment's options, filled up to whole words."""
    octets = _write_single_options(segment)
    ranges = _fitting_ranges(segment)
    if len(ranges) > 0:
        octets.extend(_option(RANGES, _write_pairs(ranges)))
    octets.extend([END] * (-len(octets) % 4))
    return octets


def read_options(octets):
    """Returns the values of the options as a dict, or raises DamagedSegment."""
    bodies = _read_bodies(_split(octets))
    stamp = _wire_numbers(bodies.get(STAMP, []))
    ranges = _wire_numbers(bodies.get(RANGES, []))
    counts = _wire_numbers(bodies.get(COUNT, [])[len(COUNT_MARK):])
    return {
        "mss": read_number(bodies[MSS]) if MSS in bodies else None,
        "scale": min(GREATEST_SCALE, read_number(bodies[SCALE])) if SCALE in bodies else None,
        "ranges_known": RANGES_KNOWN in bodies,
        "ranges": list(zip(ranges[::2], ranges[1::2])),
        "stamp": (stamp[0], stamp[1]) if len(stamp) > 0 else None,
        "count": counts[0] if len(counts) > 0 else None,
        "echo": counts[1] if len(counts) > 1 else None,
    }


def _option(kind, body):
    return [kind, len(body) + 2, *body]


def _write_pairs(pairs):
    octets = []
    for first, second in pairs:
        octets.extend(write_number(first, 4))
        octets.extend(write_number(second, 4))
    return octets


def _write_single_options(segment):
    """Returns the octets of all options but that of ranges."""
    octets = []
    if segment.mss is not None:
        octets.extend(_option(MSS, write_number(segment.mss, 2)))
    if segment.scale is not None:
        octets.extend(_option(SCALE, write_number(segment.scale, 1)))
    if segment.ranges_known:
        octets.extend(_option(RANGES_KNOWN, []))
    if segment.stamp is not None:
        octets.extend(_option(STAMP, _write_pairs([segment.stamp])))
    echo = [] if segment.echo is None else write_number(segment.echo, 4)
    octets.extend(_option(COUNT, [*COUNT_MARK, *write_number(segment.count, 4), *echo]))
    return octets


def _fitting_ranges(segment):
    many = (ROOM_FOR_RANGES - len(_write_single_options(segment))) // 8
    return segment.ranges[:many]


def _split(octets):
    """Returns the options, except fillers, as pairs of a kind and a body."""
    options = []
    at = 0
    while at < len(octets) and octets[at] != END:
        if octets[at] == FILLER:
            at += 1
        else:
            size = _option_size(octets, at)
            options.append((octets[at], octets[at + 2:at + size]))
            at += size
    if any([octet != END for octet in octets[at:]]):
        raise DamagedSegment(WRONG_OPTIONS)
    return options


def _option_size(octets, at):
    if at + 1 == len(octets):
        raise DamagedSegment(WRONG_OPTIONS)
    size = octets[at + 1]
    if size < 2 or at + size > len(octets):
        raise DamagedSegment(WRONG_OPTIONS)
    return size


def _read_bodies(options):
    """Returns the bodies of the options that are known, by their kinds."""
    bodies = {}
    for kind, body in options:
        if _is_known(kind, body):
            if kind in bodies or len(body) not in BODY_LENGTHS[kind]:
                raise DamagedSegment(WRONG_OPTIONS)
            bodies[kind] = body
    return bodies


def _is_known(kind, body):
    if kind == COUNT:
        # Other programs use this kind too, for something else.
        return tuple(body[:len(COUNT_MARK)]) == COUNT_MARK
    return kind in BODY_LENGTHS


def _wire_numbers(octets):
    return [read_number(octets[at:at + 4]) for at in range(0, len(octets), 4)]
