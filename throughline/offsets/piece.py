"""Pieces (point 27)."""


class Piece:
    """What one segment carries, told by offsets."""

    def __init__(self, start, *, data=(), syn=False, fin=False, reset=False, ack=None, window=0, ranges=(),
                 marked=False, cut=False, stamp=None):
        self.start = start
        self.data = list(data)
        self.syn = syn
        self.fin = fin
        self.reset = reset
        self.ack = ack
        self.window = window
        self.ranges = list(ranges)
        self.marked = marked
        self.cut = cut
        self.stamp = stamp

    @property
    def size(self):
        return len(self.data) + int(self.syn) + int(self.fin)

    @property
    def stop(self):
        return self.start + self.size

    @property
    def first_octet(self):
        return self.start + int(self.syn)

    def __eq__(self, other):
        if not isinstance(other, Piece):
            return False
        return self.reset == other.reset and self._fields() == other._fields()

    def _fields(self):
        return (self.start, self.data, self.syn, self.fin, self.ack, self.window, self.ranges, self.marked, self.cut,
                self.stamp)
