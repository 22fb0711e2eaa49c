"""The sender: one direction of a connection at the end that writes (part 3)."""

from throughline.offsets.piece import Piece
from throughline.offsets.sets import OffsetSet

# So many repeated acknowledgements in a row count as a loss.
REPEATS_OF_A_LOSS = 3


class Sender:
    """Holds what was written until it is acknowledged, and says what to send next."""

    def __init__(self, room):
        self.room = room
        self.una = 0
        self.nxt = 0
        self.written = 0
        self.finished = False
        self.edge = 1
        self.recovery = None
        self.resend = 0
        self.lost = 0
        self.repeated = 0
        self._queue = []
        self._sacked = OffsetSet()

    @property
    def flight(self):
        return self.nxt - self.una

    @property
    def unsent(self):
        return self.nxt <= self.written or (self.finished and self.nxt == self.written + 1)

    @property
    def all_done(self):
        return self.finished and self.una == self.written + 2

    @property
    def free(self):
        return 0 if self.finished else max(0, self.room - len(self._queue))

    @property
    def sacked(self):
        return list(self._sacked)

    def write(self, octets):
        """Takes as many octets as there is room for, and returns how many."""
        taken = octets[:self.free]
        self._queue.extend(taken)
        self.written += len(taken)
        return len(taken)

    def finish(self):
        self.finished = True

    def piece(self, start, size):
        """Returns the piece at an offset that was sent or comes next, with at most size octets."""
        at = max(start, 1) - max(self.una, 1)
        data = self._queue[at:at + size]
        fin = self.finished and start >= 1 and start + len(data) == self.written + 1
        return Piece(start, data=data, syn=start == 0, fin=fin)

    def first_piece(self, mss):
        """Returns the first piece that is not acknowledged, as far as it was sent already."""
        if self.una == 0:
            return self.piece(0, 0)
        return self.piece(self.una, min(mss, self.nxt - self.una))

    def mark_sent(self, piece):
        if piece.start < self.nxt:
            self.resend = max(self.resend, piece.stop)
        self.nxt = max(self.nxt, piece.stop)

    def pipe(self, mss):
        """Returns how many offsets are on their way."""
        # What is lost is on its way again only after it was sent again.
        gone_from = max(self.resend, self.una)
        gone_to = min(self._loss_end(mss), self.nxt)
        return self._count_unsacked(self.una, self.nxt) - self._count_unsacked(gone_from, gone_to)

    def next_piece(self, *, cwnd, mss, allow, nagle=False):
        """Returns what to send next: what is lost first, then what is new; or None."""
        pipe = self.pipe(mss)
        again = self._first_lost(mss)
        if again is not None and pipe < cwnd:
            return self._piece_again(again, mss)
        if self.nxt == 0:
            return self.piece(0, 0)
        if self.una == 0:
            return None
        size = self._new_octets(min(mss, allow, max(0, cwnd - pipe)))
        if size >= 1 and self._is_worth_sending(size, min(mss, allow), nagle):
            return self.piece(self.nxt, size)
        if self.finished and self.nxt == self.written + 1 and self.nxt <= self.edge:
            return self.piece(self.nxt, 0)
        return None

    def acknowledge(self, ack, edge, ranges, *, empty, mss):
        """Returns how far una has moved, and whether a loss was found."""
        if ack > self.nxt:
            return 0, False
        sacked_before = self._sacked.total
        wider = edge > self.edge
        moved = self._move(ack)
        self.edge = max(self.edge, edge)
        self._take_ranges(ranges)
        self.resend = max(self.resend, self.una)
        if moved > 0:
            self.repeated = 0
        elif ack == self.una and self.una < self.nxt:
            if (empty and not wider) or self._sacked.total > sacked_before:
                self.repeated += 1
        self._go_on_with_recovery(moved)
        return moved, self._find_loss(mss)

    def time_out(self):
        """Counts everything in flight as lost."""
        if self.una == self.nxt:
            return
        self._sacked = OffsetSet()
        self.repeated = 0
        self.resend = self.una
        self.lost = self.nxt
        self.recovery = self.nxt

    def queued(self):
        """Returns the octets of the queue."""
        return list(self._queue)

    def resume(self, queue, sacked):
        """Goes on with the octets and the ranges of another sender, as they are."""
        self._queue = list(queue)
        self._sacked.resume(sacked)

    def fork(self):
        """Returns an equal sender that goes on alone."""
        other = Sender(self.room)
        other.una = self.una
        other.nxt = self.nxt
        other.written = self.written
        other.finished = self.finished
        other.edge = self.edge
        other.recovery = self.recovery
        other.resend = self.resend
        other.lost = self.lost
        other.repeated = self.repeated
        other.resume(self._queue, list(self._sacked))
        return other

    def _loss_end(self, mss):
        if self.recovery is None:
            return 0
        return max(self.lost, self._sacked.loss_edge(2 * mss))

    def _count_unsacked(self, start, stop):
        return max(0, stop - start) - self._sacked.count_between(start, stop)

    def _first_lost(self, mss):
        """Returns the first offset that is lost and was not sent again, or None."""
        offset = self._sacked.first_free(max(self.resend, self.una))
        return offset if offset < min(self._loss_end(mss), self.nxt) else None

    def _piece_again(self, start, mss):
        if start == 0:
            return self.piece(0, 0)
        return self.piece(start, min(mss, self._sacked.free_end(start, self.nxt) - start))

    def _never_sent(self):
        return max(0, self.written + 1 - self.nxt)

    def _new_octets(self, most):
        return min(most, self._never_sent(), max(0, self.edge - self.nxt))

    def _is_worth_sending(self, size, full, nagle):
        if size == full or self.una == self.nxt:
            return True
        return size == self._never_sent() and (not nagle or self.finished)

    def _move(self, ack):
        moved = max(0, ack - self.una)
        if moved > 0:
            # The SYN stands at 0 and is not in the queue.
            del self._queue[:ack - max(self.una, 1)]
            self.una = ack
        return moved

    def _take_ranges(self, ranges):
        for start, stop in ranges:
            if self.una < start < stop <= self.nxt:
                self._sacked.include(start, stop)
        self._sacked.discard_below(self.una + 1)

    def _go_on_with_recovery(self, moved):
        if self.recovery is None:
            return
        if self.recovery <= self.una:
            self.recovery = None
            self.lost = 0
        elif moved > 0:
            self.lost = max(self.lost, self.una + 1)

    def _find_loss(self, mss):
        if self.recovery is not None or self.una == self.nxt:
            return False
        if self.repeated < REPEATS_OF_A_LOSS and self.una >= self._sacked.loss_edge(2 * mss):
            return False
        self.recovery = self.nxt
        self.resend = self.una
        self.lost = self.una + 1
        return True
