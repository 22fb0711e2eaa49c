"""An endpoint beside a plain model of points 63 to 76, over many rows of calls."""

import random
import unittest

from tests.endpoints import FIELDS, options, state
from throughline.endpoint.endpoint import Endpoint
from throughline.offsets.piece import Piece
from throughline.pace.cubic import Cubic
from throughline.pace.reno import Reno
from throughline.pace.round_trip import RoundTrip
from throughline.receiving.receiver import Receiver
from throughline.sending.sender import Sender

CIRCLE = 4294967296


class Model:
    """Senders, receivers, round trips and controls are tested elsewhere; the rest is written down once more."""

    def __init__(self, opts, now, answered=None, mss=None, selective=False):
        self.opts = opts
        self.mss = opts.mss if mss is None else mss
        self.sender, self.receiver = Sender(opts.room), Receiver(opts.room)
        self.trip = RoundTrip(opts.min_rto, opts.max_rto)
        self.control = {"reno": Reno, "cubic": Cubic}[opts.control](self.mss)
        self.phase, self.cause, self.selective = "syn sent", None, selective
        self.alarm = self.ack_at = None
        self.since = self.spent_at = now
        self.late = self.rest = self.spent = self.stamp = 0
        self.asked = self.again = self.probe = self.over = self.marked = self.cut = False
        if answered is not None:
            self.phase = "syn received"
            self.stamp = answered.stamp[0] if answered.stamp else 0
            self.receiver.arrive(Piece(0, syn=True))

    def end(self, cause):
        self.phase, self.cause = "ended", cause

    def needs(self):
        s = self.sender
        return self.phase not in ("time wait", "ended") and (s.una < s.nxt or s.unsent)

    def advance(self):
        s, theirs = self.sender, self.receiver.end_taken
        phase, fin, ans = self.phase, s.finished, s.all_done
        if phase == "syn received" and s.una == 0 or phase in ("syn sent", "time wait", "ended"):
            return
        if phase == "close wait" and not fin:
            return
        if phase in ("close wait", "last ack"):
            self.phase = "last ack"
            if ans:
                self.end("done")
        elif not fin:
            self.phase = ("established", "close wait")[theirs]
        else:
            self.phase = (("fin wait 1", "closing"), ("fin wait 2", "time wait"))[ans][theirs]

    def write(self, octets):
        return 0 if self.cause or self.sender.finished else self.sender.write(octets)

    def finish(self):
        if not self.cause and not self.sender.finished:
            self.sender.finish()
            self.advance()

    def read(self, count):
        found = self.receiver.read(count)
        if self.phase not in ("syn sent", "syn received", "ended") and not self.receiver.end_taken:
            if self.receiver.would_move(self.mss):
                self.ack_at = 0
        return found

    def abort(self):
        if not self.cause:
            self.over = self.phase != "syn sent"
            self.end("aborted")

    def arrive(self, piece, now, marked=False, agreed=None):
        s, r = self.sender, self.receiver
        if self.cause:
            self.over = self.over or (self.cause != "done" and not piece.reset)
            return
        if piece.reset:
            self.end("refused" if self.phase == "syn sent" else "done" if s.all_done and r.end_taken else "reset")
            return
        first = self.phase == "syn sent"
        if first:
            if not piece.syn:
                return
            self.phase = "syn received"
            self.mss, self.selective = agreed
        self.since = now
        if piece.ack is not None:
            self.acknowledged(piece, now)
        if piece.marked and self.control.mark(self.mss, now, flight=s.nxt - s.una, length=self.trip.round_ticks):
            self.cut = True
        self.marked = marked or (self.marked and not piece.cut)
        self.stream(piece, now)
        waits = self.phase == "time wait"
        self.advance()
        if self.phase == "time wait" and (not waits or piece.fin):
            self.rest = now + self.opts.life + self.opts.tries * self.opts.max_rto
        self.wait(now)
        if first and s.una == 0:
            self.again = True

    def acknowledged(self, piece, now):
        s = self.sender
        moved, lost = s.acknowledge(piece.ack, piece.ack + piece.window, piece.ranges if self.selective else (),
                                    empty=piece.size == 0, mss=self.mss)
        flight = s.nxt - s.una
        if moved:
            self.control.acknowledge(self.mss, now, moved, flight=flight, recovering=s.recovery is not None)
            if piece.stamp and piece.stamp[1]:
                self.trip.sample((now - piece.stamp[1]) % CIRCLE)
        if lost:
            self.control.lose(self.mss, flight=flight)
        self.again = lost or (self.again and not moved)
        if moved or not (flight or s.unsent):
            self.alarm, self.probe = None, False

    def stream(self, piece, now):
        r = self.receiver
        nxt = r.nxt
        r.arrive(piece)
        if piece.start <= nxt and piece.stamp:
            self.stamp = piece.stamp[0]
        if piece.size and r.nxt > nxt and not r.holds:
            times = [now + self.opts.ack_delay] + ([] if self.ack_at is None else [self.ack_at])
            self.ack_at = 0 if piece.syn or piece.fin or self.late else min(times)
            self.late += 1
        elif piece.size or piece.start < nxt:
            self.asked = True

    def wait(self, now):
        if self.needs() and self.alarm is None:
            self.alarm, self.since = now + self.trip.rto, now

    def tick(self, now):
        s = self.sender
        if self.phase == "time wait" and now >= self.rest:
            self.end("done")
        if self.phase in ("time wait", "ended"):
            return
        if self.alarm is not None and self.alarm <= now:
            if self.since + self.opts.tries * self.opts.max_rto <= now:
                self.end("gave up" if self.needs() else "silent")
                return
            self.trip.back_off()
            self.alarm = now + self.trip.rto
            if s.una < s.nxt:
                self.control.time_out(self.mss, flight=s.nxt - s.una)
                s.time_out()
                self.again = True
            else:
                self.probe = True
        elif self.alarm is None and self.phase[:3] != "syn":
            if self.opts.keep_alive and self.since + self.opts.keep_alive <= now:
                self.probe, self.alarm, self.since = True, now + self.trip.rto, now

    def output(self, now):
        found = []
        while len(found) < 64 and (piece := self.one(now)) is not None:
            found.append(piece)
        self.wait(now)
        return found

    def one(self, now):
        s = self.sender
        if self.cause:
            over, self.over = self.over, False
            return Piece(s.nxt, reset=True) if over else None
        piece = self.chosen(now)
        if piece is None:
            return None
        quiet = self.phase == "syn sent"
        cut = self.cut and len(piece.data) > 0
        self.cut = self.cut and not cut
        self.ack_at, self.late = None, 0
        return Piece(piece.start, data=piece.data, syn=piece.syn, fin=piece.fin,
                     ack=None if quiet else self.receiver.nxt,
                     window=self.opts.room if quiet else self.receiver.advertise(self.mss),
                     ranges=self.receiver.held_ranges() if self.selective else [], marked=self.marked, cut=cut,
                     stamp=(now % CIRCLE, self.stamp))

    def chosen(self, now):
        s = self.sender
        if self.again and s.una < s.nxt:
            self.again = False
            piece = s.first_piece(self.mss)
            s.mark_sent(piece)
            return piece
        if self.asked:
            self.asked = False
            return Piece(s.nxt)
        spent = self.spent if self.spent_at == now else 0
        piece = s.next_piece(cwnd=self.control.cwnd, mss=self.mss, allow=max(0, self.opts.pace - spent),
                             nagle=self.opts.nagle)
        if piece is not None:
            if s.una == s.nxt:
                self.alarm, self.since = now + self.trip.rto, now
            if piece.start == s.nxt:
                self.spent, self.spent_at = spent + len(piece.data), now
            s.mark_sent(piece)
            return piece
        if self.probe:
            self.probe = False
            return Piece(s.una - 1)
        return Piece(s.nxt) if self.ack_at is not None and self.ack_at <= now else None


class Pair:
    """An endpoint and its model, to which the same happens."""

    def __init__(self, case, opts, now, *more):
        self.case = case
        self.model = Model(opts, now, *more)
        if more:
            piece, mss, selective = more
            self.endpoint = Endpoint.answering(opts, now, piece, mss=mss, selective=selective)
        else:
            self.endpoint = Endpoint(opts, now)

    def do(self, name, *rest, **more):
        found = getattr(self.endpoint, name)(*rest, **more)
        self.case.assertEqual(found, getattr(self.model, name)(*rest, **more), name)
        self.case.assertEqual([getattr(self.endpoint, field) for field in FIELDS],
                              [getattr(self.model, field) for field in FIELDS], name)
        return found


class RowsTest(unittest.TestCase):
    def play(self, seed):
        draws = random.Random(seed)
        opts = options(mss=draws.choice([8, 20, 100]), room=draws.choice([200, 333, 1000]),
                       pace=draws.choice([5, 90, 5000]), ack_delay=draws.choice([0, 3, 9]), keep_alive=draws.choice([0, 15, 60]),
                       nagle=draws.random() < 0.5, control=draws.choice(["reno", "cubic"]),
                       tries=draws.choice([1, 2, 6]), life=draws.choice([1, 30]))
        now = draws.choice([0, CIRCLE - 100])
        pairs = [Pair(self, opts, now), None]
        under_way, reached = [], set()
        worst = draws.choice([0.05, 0.3, 0.6])
        for _ in range(draws.choice([60, 200])):
            for me, pair in enumerate(pairs):
                if pair is None:
                    continue
                self.call(draws, pair, now, worst)
                under_way += [(1 - me, piece) for piece in pair.do("output", now)]
                reached.add((pair.endpoint.phase, pair.endpoint.cause))
            now += draws.choice([0, 1, 1, 2, 5, 30])
            for _ in range(draws.randrange(5)):
                if not under_way:
                    break
                place = draws.randrange(min(len(under_way), 4))
                to, piece = under_way[place] if draws.random() < worst / 3 else under_way.pop(place)
                if draws.random() < worst:
                    continue
                agreed = (draws.choice([8, opts.mss]), draws.random() < 0.7) if piece.syn else None
                if pairs[to] is not None:
                    pairs[to].do("arrive", piece, now, marked=draws.random() < 0.1, agreed=agreed)
                elif piece.syn:
                    pairs[to] = Pair(self, opts, now, piece, *agreed)
        return reached, pairs

    def call(self, draws, pair, now, worst):
        name = draws.choice(["write", "write", "read", "read", "tick", "tick", "tick", "finish", "odd", "abort"])
        if name == "write":
            pair.do("write", [draws.randrange(256) for _ in range(draws.choice([0, 1, 30, 300]))])
        elif name == "read":
            pair.do("read", draws.choice([0, 1, 50, 1000]))
        elif name == "tick":
            pair.do("tick", now)
        elif name == "finish" and draws.random() < 0.2 or name == "abort" and draws.random() < 0.02:
            pair.do(name)
        elif name == "odd" and draws.random() < worst:
            near = draws.choice([pair.endpoint.receiver.nxt, 0, 1, 50])
            piece = Piece(max(0, near + draws.randrange(-3, 4)), data=[7] * draws.choice([0, 0, 3]),
                          syn=draws.random() < 0.1, fin=draws.random() < 0.05, reset=draws.random() < 0.03,
                          ack=draws.choice([None, pair.endpoint.sender.una, pair.endpoint.sender.nxt,
                                            pair.endpoint.sender.nxt + 1]),
                          window=draws.choice([0, 10, 500]), marked=draws.random() < 0.2, cut=draws.random() < 0.2,
                          stamp=draws.choice([None, (3, 0), (4, max(0, now - 7) % CIRCLE)]))
            pair.do("arrive", piece, now, marked=draws.random() < 0.2, agreed=(8, True) if piece.syn else None)

    def test_many_rows(self):
        reached = set()
        for seed in range(150):
            with self.subTest(seed=seed):
                found, pairs = self.play(seed)
                reached |= found
                for pair in pairs:
                    if pair is not None:
                        self.assertEqual(state(pair.endpoint.fork()), state(pair.endpoint))
        phases = {phase for phase, _ in reached}
        causes = {cause for _, cause in reached}
        self.assertEqual(len(phases), 10, phases)
        self.assertEqual(len(causes), 7, causes)


if __name__ == "__main__":
    unittest.main()
