"""Long rows of calls of a sender, next to a model that follows points 29 to 37 offset by offset."""

import random
import unittest

from throughline.offsets.piece import Piece
from throughline.sending.sender import Sender

FIELDS = ("room", "una", "nxt", "written", "finished", "edge", "recovery", "resend", "lost", "repeated")


def ranges_of(offsets):
    found = []
    for offset in sorted(offsets):
        if found and found[-1][1] == offset:
            found[-1] = (found[-1][0], offset + 1)
        else:
            found.append((offset, offset + 1))
    return found


class Model:
    """A sender that keeps all octets that were ever written, and sets of single offsets."""

    def __init__(self, room):
        self.room = room
        self.una = self.nxt = self.written = self.resend = self.lost = self.repeated = 0
        self.edge = 1
        self.finished = False
        self.recovery = None
        self.stream = []
        self.sacked = set()

    def free(self):
        waiting = self.written - max(0, min(self.una - 1, self.written))
        return 0 if self.finished else self.room - waiting

    def write(self, octets):
        taken = octets[:self.free()]
        self.stream += taken
        self.written += len(taken)
        return len(taken)

    def piece(self, start, size):
        first = max(start, 1)
        data = self.stream[first - 1:first - 1 + size]
        fin = self.finished and start >= 1 and start + len(data) == self.written + 1
        return Piece(start, data=data, syn=start == 0, fin=fin)

    def mark_sent(self, piece):
        was_sent = piece.start < self.nxt
        if piece.stop > self.nxt:
            self.nxt = piece.stop
        if was_sent and piece.stop > self.resend:
            self.resend = piece.stop

    def loss_edge(self, amount):
        edges = [x for x in self.sacked if len([y for y in self.sacked if y >= x]) > amount]
        return max(edges, default=0)

    def loss_end(self, mss):
        return 0 if self.recovery is None else max(self.lost, self.loss_edge(2 * mss))

    def pipe(self, mss):
        end = self.loss_end(mss)
        return len([x for x in range(self.una, self.nxt)
                    if x not in self.sacked and (x < self.resend or not x < end)])

    def next_piece(self, cwnd, mss, allow, nagle):
        x = max(self.resend, self.una)
        while x in self.sacked:
            x += 1
        if x < self.loss_end(mss) and x < self.nxt and self.pipe(mss) < cwnd:
            size = 0
            while size < mss and x + size < self.nxt and x + size not in self.sacked:
                size += 1
            return self.piece(x, 0 if x == 0 else size)
        if self.nxt == 0:
            return self.piece(0, 0)
        if self.una == 0:
            return None
        left = max(0, self.written + 1 - self.nxt)
        n = min(mss, left, max(0, self.edge - self.nxt), max(0, cwnd - self.pipe(mss)), allow)
        if n >= 1 and (n == min(mss, allow) or self.una == self.nxt or (n == left and (not nagle or self.finished))):
            return self.piece(self.nxt, n)
        if self.finished and self.nxt == self.written + 1 and self.nxt <= self.edge:
            return self.piece(self.nxt, 0)
        return None

    def acknowledge(self, ack, edge, ranges, empty, mss):
        if ack > self.nxt:
            return 0, False
        moved = max(0, ack - self.una)
        self.una += moved
        old_edge, self.edge = self.edge, max(self.edge, edge)
        old = set(self.sacked)
        for start, stop in ranges:
            if start > self.una and start < stop and stop <= self.nxt:
                self.sacked |= set(range(start, stop))
        self.sacked = {x for x in self.sacked if x >= self.una + 1}
        self.resend = max(self.resend, self.una)
        if moved:
            self.repeated = 0
        elif ack == self.una and self.una < self.nxt:
            if (empty and edge <= old_edge) or len(self.sacked) > len(old):
                self.repeated += 1
        if self.recovery is not None:
            if self.recovery <= self.una:
                self.recovery, self.lost = None, 0
            elif moved:
                self.lost = max(self.lost, self.una + 1)
        if self.recovery is None and self.una < self.nxt:
            if self.repeated >= 3 or self.una < self.loss_edge(2 * mss):
                self.recovery, self.resend, self.lost = self.nxt, self.una, self.una + 1
                return moved, True
        return moved, False

    def time_out(self):
        if self.una != self.nxt:
            self.sacked = set()
            self.repeated, self.resend, self.lost, self.recovery = 0, self.una, self.nxt, self.nxt


class RowsTest(unittest.TestCase):
    def compare(self, sender, model):
        for name in FIELDS:
            self.assertEqual(getattr(sender, name), getattr(model, name), name)
        self.assertEqual(sender.sacked, ranges_of(model.sacked))
        self.assertEqual(sender.free, model.free())
        self.assertEqual(sender.flight, model.nxt - model.una)
        self.assertIs(sender.unsent, model.nxt <= model.written or model.finished and model.nxt == model.written + 1)
        self.assertIs(sender.all_done, model.finished and model.una == model.written + 2)

    def compare_pieces(self, sender, model, draws):
        for mss in (1, 3, draws.randrange(1, 12)):
            self.assertEqual(sender.pipe(mss), model.pipe(mss))
            cwnd, allow = draws.choice([0, 5, 20, 999]), draws.choice([0, 1, 4, 999])
            for nagle in (False, True):
                found = sender.next_piece(cwnd=cwnd, mss=mss, allow=allow, nagle=nagle)
                self.assertEqual(found, model.next_piece(cwnd, mss, allow, nagle))
            start, size = draws.randrange(model.una, model.nxt + 1), draws.randrange(12)
            self.assertEqual(sender.piece(start, size), model.piece(start, size))
            if model.una < model.nxt:
                expected = model.piece(model.una, 0 if model.una == 0 else min(mss, model.nxt - model.una))
                self.assertEqual(sender.first_piece(mss), expected)

    def check_promises(self, sender, sent):
        """Point 38."""
        self.assertLessEqual(sender.una, sender.nxt)
        self.assertLessEqual(sender.nxt, sender.written + (2 if sender.finished else 1))
        for piece in sent:
            if piece.data:
                self.assertLess(piece.first_octet + len(piece.data) - 1, sender.edge)
            if piece.fin:
                self.assertLessEqual(piece.stop - 1, sender.edge)
        for start, stop in sender.sacked:
            self.assertGreater(start, sender.una)
            self.assertLessEqual(stop, sender.nxt)
        if sender.flight == 0 and sender.unsent:
            left = sender.written + 1 - sender.nxt
            if sender.nxt == 0 or left == 0 or sender.edge > sender.nxt:
                for nagle in (False, True):
                    self.assertIsNotNone(sender.next_piece(cwnd=1, mss=1, allow=1, nagle=nagle))

    def send(self, sender, model, mss, draws):
        cwnd, allow, nagle = draws.choice([0, 9, 30, 999]), draws.choice([1, 5, 999]), draws.random() < 0.5
        piece = sender.next_piece(cwnd=cwnd, mss=mss, allow=allow, nagle=nagle)
        if draws.randrange(6) == 0 and sender.una < sender.nxt:
            piece = sender.first_piece(mss)
        if piece is None:
            return []
        self.assertIsNone(sender.mark_sent(piece))
        model.mark_sent(piece)
        return [piece]

    def acknowledge(self, sender, model, mss, draws):
        ack = draws.choice([model.una, model.una, model.nxt, draws.randrange(max(0, model.una - 3), model.nxt + 3)])
        edge = draws.choice([model.edge, model.edge, draws.randrange(max(0, model.edge - 3), model.edge + 40)])
        ranges = []
        for _ in range(draws.choice([0, 0, 1, 2, 3])):
            start = draws.randrange(max(0, model.una - 2), model.nxt + 2)
            ranges.append((start, start + draws.randrange(-1, 12)))
        empty = draws.random() < 0.7
        given = list(ranges)
        found = sender.acknowledge(ack, edge, given, empty=empty, mss=mss)
        self.assertEqual(given, ranges)
        self.assertEqual(found, model.acknowledge(ack, edge, ranges, empty, mss))

    def one_row(self, seed):
        draws = random.Random(seed)
        room = draws.choice([1, 7, 30, 100])
        sender, model, sent = Sender(room), Model(room), []
        mss = draws.choice([1, 2, 4, 8])
        number = 0
        for _ in range(draws.choice([20, 60, 120])):
            deed = draws.randrange(12)
            if deed < 2:
                octets = [(number + k) % 256 for k in range(draws.randrange(25))]
                taken = sender.write(octets)
                self.assertEqual(taken, model.write(octets))
                number += taken
            elif deed < 7:
                sent += self.send(sender, model, mss, draws)
            elif deed < 11:
                self.acknowledge(sender, model, mss, draws)
            elif draws.randrange(3) == 0:
                self.assertIsNone(sender.time_out())
                model.time_out()
            elif draws.randrange(8) == 0:
                self.assertIsNone(sender.finish())
                model.finished = True
            self.compare(sender, model)
            self.compare_pieces(sender, model, draws)
            self.check_promises(sender, sent)

    def test_rows_of_calls(self):
        for seed in range(300):
            with self.subTest(seed=seed):
                self.one_row(seed)


if __name__ == "__main__":
    unittest.main()
