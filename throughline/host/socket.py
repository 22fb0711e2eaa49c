"""Sockets: an endpoint with what it takes to write its pieces as segments (points 81 to 85)."""

from throughline.offsets.circle import CIRCLE, unwrap, wrap
from throughline.offsets.piece import Piece
from throughline.wire.segment import Segment

FIRST_NUMBER_STEP = 2654435761
GREATEST_WINDOW = 65535
LEAST_MSS = 8
# What holds if the other side does not say.
USUAL_MSS = 536


def agreed_values(options, segment):
    """Returns the mss and whether the other end reports what it holds, as agreed by a segment with SYN."""
    mss = USUAL_MSS if segment.mss is None else segment.mss
    return max(LEAST_MSS, min(options.mss, mss)), segment.ranges_known


class Socket:
    """One end of a connection, at a port of a host."""

    def __init__(self, count, port, peer, peer_port, endpoint, *, listened=False):
        self.count = count
        self.port = port
        self.peer = peer
        self.peer_port = peer_port
        self.peer_count = None
        self.peer_first = None
        self.peer_shift = None
        self.listened = listened
        self.accepted = False
        self.endpoint = endpoint

    @property
    def first(self):
        return self.count * FIRST_NUMBER_STEP % CIRCLE

    def is_for(self, segment, sender):
        """Returns whether the segment from the address is for this socket."""
        if (segment.target, sender, segment.source) != (self.port, self.peer, self.peer_port):
            return False
        if segment.echo is not None:
            return segment.echo == self.count and self.peer_count in (None, segment.count)
        if not segment.syn or segment.reset:
            return False
        if self.peer_count is None:
            return not self.endpoint.has_ended
        return segment.count == self.peer_count

    def learn(self, segment):
        """Learns of its peer, once, from a segment with SYN."""
        if self.peer_count is not None or segment.reset or not segment.syn:
            return
        self.peer_count = segment.count
        self.peer_first = segment.seq
        self.peer_shift = segment.scale

    def take_segment(self, segment, now, *, marked):
        """Gives the segment to the endpoint; returns False if it is dropped."""
        piece = self.to_piece(segment)
        if piece is None:
            return False
        self.learn(segment)
        agreed = agreed_values(self.endpoint.options, segment) if segment.syn else None
        self.endpoint.arrive(piece, now, marked=marked, agreed=agreed)
        return True

    def output(self, now):
        """Returns the segments that are sent now."""
        return [self.to_segment(piece) for piece in self.endpoint.output(now)]

    def to_segment(self, piece):
        """Returns the segment that carries the piece."""
        options = self.endpoint.options
        ack, ranges = None, []
        if self.peer_first is not None:
            ranges = [(wrap(self.peer_first, start), wrap(self.peer_first, stop)) for start, stop in piece.ranges]
            if piece.ack is not None:
                ack = wrap(self.peer_first, piece.ack)
        return Segment(self.port, self.peer_port, seq=wrap(self.first, piece.start), count=self.count,
                       echo=self.peer_count, ack=ack, syn=piece.syn, fin=piece.fin, reset=piece.reset,
                       marked=piece.marked, cut=piece.cut, window=self._window_to_write(piece),
                       mss=options.mss if piece.syn else None, scale=options.shift if piece.syn else None,
                       ranges_known=piece.syn, ranges=ranges, stamp=piece.stamp, data=piece.data)

    def to_piece(self, segment):
        """Returns the piece that the segment carries, or None if it is dropped."""
        if segment.reset:
            start, ack = self.endpoint.receiver.nxt, None
        else:
            if self.peer_first is None and not segment.syn:
                return None
            start, ack = self._start_of(segment), self._ack_of(segment)
            if start is None or (ack is None and segment.ack is not None):
                return None
        return Piece(start, data=segment.data, syn=segment.syn, fin=segment.fin, reset=segment.reset, ack=ack,
                     window=self._window_of(segment), ranges=self._ranges_of(segment), marked=segment.marked,
                     cut=segment.cut, stamp=segment.stamp)

    def fork(self):
        """Returns an equal socket that goes on alone."""
        other = Socket(self.count, self.port, self.peer, self.peer_port, self.endpoint.fork(), listened=self.listened)
        other.peer_count = self.peer_count
        other.peer_first = self.peer_first
        other.peer_shift = self.peer_shift
        other.accepted = self.accepted
        return other

    def _window_to_write(self, piece):
        window = piece.window
        if not piece.syn and self.peer_shift is not None:
            window = window >> self.endpoint.options.shift
        return min(window, GREATEST_WINDOW)

    def _start_of(self, segment):
        if segment.syn:
            return 0
        return unwrap(self.peer_first, self.endpoint.receiver.nxt, segment.seq)

    def _ack_of(self, segment):
        return None if segment.ack is None else self._own_offset(segment.ack)

    def _own_offset(self, number):
        return unwrap(self.first, self.endpoint.sender.una, number)

    def _window_of(self, segment):
        if segment.syn or self.peer_shift is None:
            return segment.window
        return segment.window << self.peer_shift

    def _ranges_of(self, segment):
        pairs = [(self._own_offset(start), self._own_offset(stop)) for start, stop in segment.ranges]
        return [(start, stop) for start, stop in pairs if start is not None and stop is not None and start < stop]
