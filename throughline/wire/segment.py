"""Segments (point 10)."""


class Segment:
    """What one packet carries from a port to a port."""

    def __init__(self, source, target, *, seq, count, echo=None, ack=None, syn=False, fin=False, reset=False,
                 marked=False, cut=False, window=0, mss=None, scale=None, ranges_known=False, ranges=(),
                 stamp=None, data=()):
        self.source = source
        self.target = target
        self.seq = seq
        self.count = count
        self.echo = echo
        self.ack = ack
        self.syn = syn
        self.fin = fin
        self.reset = reset
        self.marked = marked
        self.cut = cut
        self.window = window
        self.mss = mss
        self.scale = scale
        self.ranges_known = ranges_known
        self.ranges = list(ranges)
        self.stamp = stamp
        self.data = list(data)

    @property
    def size(self):
        return len(self.data) + int(self.syn) + int(self.fin)

    def __eq__(self, other):
        if not isinstance(other, Segment):
            return False
        return self.reset == other.reset and self._parts() == other._parts()

    def _parts(self):
        return (self.source, self.target, self.seq, self.count, self.echo, self.ack, self.syn, self.fin, self.marked,
                self.cut, self.window, self.mss, self.scale, self.ranges_known, self.ranges, self.stamp, self.data)
