"""Long rows of calls of a receiver, next to a model that follows points 39 to 44 offset by offset."""

import random
import unittest

from throughline.offsets.piece import Piece
from throughline.receiving.receiver import Receiver


class Model:
    def __init__(self, room):
        self.room, self.nxt, self.edge, self.end, self.recent = room, 0, room + 1, None, 0
        self.ready, self.held = [], {}

    def end_taken(self):
        return self.end is not None and self.end < self.nxt

    def arrive(self, piece):
        nxt, many = self.nxt, len(self.held)
        if self.nxt == 0 and piece.syn and piece.start == 0:
            self.nxt = 1
        if self.nxt == 0:
            return
        offset = piece.start + (1 if piece.syn else 0)
        first = offset
        for octet in piece.data:
            if offset >= self.nxt and offset < self.edge and (self.end is None or offset < self.end):
                if offset not in self.held:
                    self.held[offset] = octet
            offset += 1
        if piece.fin and self.end is None and self.nxt <= offset <= self.edge:
            if all(x < offset for x in self.held):
                self.end = offset
        while self.nxt in self.held:
            self.ready.append(self.held.pop(self.nxt))
            self.nxt += 1
        if self.nxt == self.end:
            self.nxt += 1
        if len(self.held) > many:
            self.recent = max(first, nxt)

    def would_move(self, mss):
        top = self.next_read() + self.room
        return top >= self.edge + min(mss, self.room // 2) and top != self.edge

    def next_read(self):
        return max(1, self.nxt - 1 if self.end_taken() else self.nxt) - len(self.ready)

    def ranges(self):
        found = []
        for offset in sorted(self.held):
            if found and found[-1][1] == offset:
                found[-1] = (found[-1][0], offset + 1)
            else:
                found.append((offset, offset + 1))
        recent = [pair for pair in found if pair[0] <= self.recent < pair[1]]
        return (recent + [pair for pair in found if pair not in recent])[:3]


class RowsTest(unittest.TestCase):
    def compare(self, receiver, model, mss):
        for name in ("room", "nxt", "edge", "end", "recent"):
            self.assertEqual(getattr(receiver, name), getattr(model, name), name)
        self.assertEqual(receiver.ready, len(model.ready))
        self.assertEqual(receiver.holds, len(model.held))
        self.assertIs(receiver.end_taken, model.end_taken())
        self.assertIs(receiver.at_end, model.end_taken() and not model.ready)
        self.assertEqual(receiver.permitted, max(0, model.edge - model.nxt))
        self.assertEqual(receiver.held_ranges(), model.ranges())
        for size in (1, mss, 1000):
            self.assertIs(receiver.would_move(size), model.would_move(size))

    def one_piece(self, stream, model, draws):
        """Any part of the stream, near nxt, and now and then a piece that is no part of one."""
        if draws.randrange(20) == 0:
            return Piece(draws.randrange(9), syn=True, data=[7] * draws.randrange(4), fin=draws.random() < 0.2)
        start = max(0, model.nxt + draws.randrange(-10, 25))
        many = draws.choice([0, 1, 3, 10, 30])
        if start == 0:
            data = stream[:many]
            return Piece(0, syn=True, data=data, fin=draws.random() < 0.01)
        data = stream[start - 1:start - 1 + many]
        fin = start - 1 + len(data) == len(stream) or draws.randrange(60) == 0
        return Piece(start, data=data, fin=fin)

    def one_row(self, seed):
        draws = random.Random(seed)
        room, mss = draws.choice([1, 2, 9, 30, 100]), draws.choice([1, 4, 9])
        receiver, model = Receiver(room), Model(room)
        stream = [draws.randrange(256) for _ in range(draws.choice([0, 30, 200]))]
        for _ in range(100):
            deed = draws.randrange(10)
            if deed < 7:
                piece = self.one_piece(stream, model, draws)
                receiver.arrive(piece)
                model.arrive(piece)
            elif deed < 9:
                count = draws.choice([0, 1, 5, 50])
                self.assertEqual(receiver.read(count), model.ready[:count])
                model.ready = model.ready[count:]
            else:
                if model.would_move(mss):
                    model.edge = model.next_read() + room
                self.assertEqual(receiver.advertise(mss), max(0, model.edge - model.nxt))
            self.compare(receiver, model, mss)

    def test_rows_of_calls(self):
        for seed in range(300):
            with self.subTest(seed=seed):
                self.one_row(seed)


class OneStreamTest(unittest.TestCase):
    """Point 45."""

    def parts(self, stream, draws):
        whole = [Piece(0, syn=True)]
        for _ in range(4):
            at = 0
            while at < len(stream):
                many = draws.randrange(1, 15)
                data = stream[at:at + many]
                whole.append(Piece(at + 1, data=data, fin=at + len(data) == len(stream)))
                at += len(data)
        whole.append(Piece(len(stream) + 1, fin=True))
        return whole

    def one_stream(self, seed):
        draws = random.Random(seed)
        stream = [draws.randrange(256) for _ in range(draws.choice([0, 1, 60, 150]))]
        room = draws.choice([2, 20, 200])
        receiver = Receiver(room)
        parts = self.parts(stream, draws)
        found, edge = [], receiver.edge
        for turn in range(400):
            # Parts come before the SYN, too, and change nothing then.
            piece = parts[0] if turn == 30 else draws.choice(parts)
            receiver.arrive(piece)
            self.assertLessEqual(receiver.ready + receiver.holds, room)
            if draws.randrange(3) == 0:
                found += receiver.read(draws.choice([1, 10, 1000]))
                receiver.advertise(draws.choice([1, 10, 1000]))
            self.assertEqual(found, stream[:len(found)])
            self.assertGreaterEqual(receiver.edge, edge)
            edge = receiver.edge
        for _ in range(200):
            for piece in parts:
                receiver.arrive(piece)
            found += receiver.read(receiver.ready)
            receiver.advertise(1)
        self.assertEqual(found, stream)
        self.assertIs(receiver.at_end, True)

    def test_parts_in_many_orders(self):
        for seed in range(60):
            with self.subTest(seed=seed):
                self.one_stream(seed)


if __name__ == "__main__":
    unittest.main()
