"""The receiver: one direction of a connection at the end that reads (part 4)."""

from throughline.offsets.ranges import ranges_of
from throughline.offsets.sets import OffsetSet

MOST_RANGES = 3


class Receiver:
    """Puts what arrives in order, and says how much more may be sent."""

    def __init__(self, room):
        self.room = room
        self.nxt = 0
        self.edge = room + 1
        self.end = None
        self.recent = 0
        self._ready = []
        # The octets beyond nxt by their offsets, and the same offsets as a set.
        self._held = {}
        self._held_offsets = OffsetSet()

    @property
    def ready(self):
        return len(self._ready)

    @property
    def holds(self):
        return len(self._held)

    @property
    def end_taken(self):
        return self.end is not None and self.end < self.nxt

    @property
    def at_end(self):
        return self.end_taken and len(self._ready) == 0

    @property
    def permitted(self):
        return max(0, self.edge - self.nxt)

    def arrive(self, piece):
        """Takes what is new of a piece."""
        nxt_before = self.nxt
        holds_before = self.holds
        if self.nxt == 0 and piece.syn and piece.start == 0:
            self.nxt = 1
        if self.nxt == 0:
            return
        self._hold(piece)
        if piece.fin:
            self._learn_end(piece.first_octet + len(piece.data))
        self._advance()
        if self.holds > holds_before:
            self.recent = max(piece.first_octet, nxt_before)

    def read(self, count):
        """Returns the next octets that are ready, at most count."""
        octets = self._ready[:count]
        del self._ready[:count]
        return octets

    def advertise(self, mss):
        """Moves the edge if that is worth telling, and returns the window."""
        if self.would_move(mss):
            self.edge = self._next_to_read() + self.room
        return self.permitted

    def would_move(self, mss):
        edge = self._next_to_read() + self.room
        return edge > self.edge and edge >= self.edge + min(mss, self.room // 2)

    def held_ranges(self):
        """Returns the ranges that the other side is told of, the recent one first."""
        ranges = list(self._held_offsets)
        recent = [(start, stop) for start, stop in ranges if start <= self.recent < stop]
        others = [pair for pair in ranges[:MOST_RANGES] if pair not in recent]
        return [*recent, *others][:MOST_RANGES]

    def ready_octets(self):
        """Returns the octets that can be read."""
        return list(self._ready)

    def held_octets(self):
        """Returns the octets that are held, as pairs with their offsets, which are ascending."""
        return [(offset, self._held[offset]) for offset in sorted(self._held)]

    def resume(self, ready, held):
        """Goes on with the octets of another receiver; the offsets of those that are held are ascending."""
        self._ready = list(ready)
        self._held = {offset: octet for offset, octet in held}
        self._held_offsets = OffsetSet()
        self._held_offsets.resume(ranges_of([offset for offset, _ in held]))

    def fork(self):
        """Returns an equal receiver that goes on alone."""
        other = Receiver(self.room)
        other.nxt = self.nxt
        other.edge = self.edge
        other.end = self.end
        other.recent = self.recent
        other._ready = list(self._ready)
        other._held = dict(self._held)
        other._held_offsets = self._held_offsets.fork()
        return other

    def _hold(self, piece):
        first = piece.first_octet
        start = max(first, self.nxt)
        stop = min(first + len(piece.data), self.edge)
        if self.end is not None:
            stop = min(stop, self.end)
        for offset in range(start, stop):
            self._held.setdefault(offset, piece.data[offset - first])
        self._held_offsets.include(start, stop)

    def _learn_end(self, offset):
        if self.end is not None or not self.nxt <= offset <= self.edge:
            return
        if all([stop <= offset for _, stop in self._held_offsets]):
            self.end = offset

    def _advance(self):
        while self.nxt in self._held:
            self._ready.append(self._held.pop(self.nxt))
            self.nxt += 1
        self._held_offsets.discard_below(self.nxt)
        if self.nxt == self.end:
            self.nxt += 1

    def _next_to_read(self):
        behind = self.nxt - 1 if self.end_taken else self.nxt
        return max(1, behind) - len(self._ready)
