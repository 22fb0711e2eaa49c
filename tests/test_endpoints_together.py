"""Two endpoints over a link that loses, repeats, delays and reorders (points 2 and 63 to 76)."""

import random
import unittest

from tests.endpoints import options
from throughline.endpoint.endpoint import Endpoint
from throughline.offsets.piece import Piece


class Link:
    """Two endpoints, what each of them writes and reads, and the pieces under way."""

    def __init__(self, case, draws, opts, *, loss=0, twice=0, late=1, marks=0):
        self.case, self.draws = case, draws
        self.loss, self.twice, self.late, self.marks = loss, twice, late, marks
        self.opts = opts
        self.now = 0
        self.ends = [Endpoint(opts, 0), None]
        self.plan = [[], []]
        self.wrote = [0, 0]
        self.has_read = [[], []]
        self.under_way = []
        self.send(0)

    def send(self, me):
        for piece in self.ends[me].output(self.now):
            if self.draws.random() < self.loss:
                continue
            for _ in range(2 if self.draws.random() < self.twice else 1):
                marked = self.draws.random() < self.marks
                self.under_way.append((self.now + self.draws.randint(1, self.late), self.draws.random(), 1 - me, piece,
                                       marked))

    def deliver(self):
        due = [entry for entry in self.under_way if entry[0] <= self.now]
        self.under_way = [entry for entry in self.under_way if entry[0] > self.now]
        for _, _, to, piece, marked in sorted(due, key=lambda entry: entry[:2]):
            agreed = (self.opts.mss, True)
            if self.ends[to] is not None:
                self.ends[to].arrive(piece, self.now, marked=marked, agreed=agreed if piece.syn else None)
            elif piece.syn:
                self.ends[to] = Endpoint.answering(self.opts, self.now, piece, mss=agreed[0], selective=True)
            if self.ends[to] is not None:
                self.send(to)

    def play(self, ticks, *, reads=True):
        for _ in range(ticks):
            self.now += 1
            for me, end in enumerate(self.ends):
                if end is not None:
                    end.tick(self.now)
                    self.act(me, end, reads)
                    self.send(me)
            self.deliver()
            if all(end is not None and end.has_ended for end in self.ends):
                return

    def act(self, me, end, reads):
        taken = end.write(self.plan[me][self.wrote[me]:self.wrote[me] + 300])
        self.wrote[me] += taken
        if self.wrote[me] == len(self.plan[me]):
            end.finish()
        if reads and self.draws.random() < 0.7:
            self.has_read[me] += end.read(self.draws.randrange(1, 500))
        found = self.has_read[me]
        self.case.assertEqual(found, self.plan[1 - me][:len(found)])
        self.case.assertLessEqual(len(found), self.wrote[1 - me])

    def read_the_rest(self):
        for me, end in enumerate(self.ends):
            self.has_read[me] += end.read(10 ** 6)


class TogetherTest(unittest.TestCase):
    def check_done(self, link):
        link.read_the_rest()
        self.assertEqual([(end.phase, end.cause) for end in link.ends], [("ended", "done")] * 2)
        self.assertEqual(link.has_read, [link.plan[1], link.plan[0]])
        self.assertTrue(all(end.sender.all_done and end.receiver.at_end for end in link.ends))

    def play(self, seed, size, opts, **link):
        draws = random.Random(seed)
        found = Link(self, draws, opts, **link)
        found.plan = [[draws.randrange(256) for _ in range(draws.randrange(size))] for _ in range(2)]
        found.play(20000)
        return found

    def test_a_good_link(self):
        for control in ("reno", "cubic"):
            link = self.play(1, 20000, options(control=control))
            self.check_done(link)
            self.assertLess(link.now, 600)

    def test_a_link_that_loses(self):
        for seed in range(6):
            self.check_done(self.play(seed, 4000, options(tries=30, control=("reno", "cubic")[seed % 2]), loss=0.25))

    def test_a_link_that_does_everything(self):
        for seed in range(12):
            opts = options(tries=40, control=("reno", "cubic")[seed % 2], nagle=seed % 3 == 0, ack_delay=seed % 5,
                           mss=(100, 8, 30)[seed % 3], pace=(100000, 60)[seed % 2], keep_alive=(0, 30)[seed % 2],
                           max_rto=40, life=60)
            self.check_done(self.play(seed, 1500, opts, loss=0.2, twice=0.2, late=25, marks=0.1))

    def test_nothing_is_written(self):
        link = self.play(3, 1, options())
        self.assertEqual(link.plan, [[], []])
        self.check_done(link)

    def test_one_that_does_not_read_stops_the_other_one(self):
        link = Link(self, random.Random(5), options(tries=50))
        link.plan = [[7] * 5000, []]
        link.play(400, reads=False)
        self.assertEqual(link.ends[1].receiver.ready, 1000)
        self.assertEqual(link.wrote[0], 2000)
        link.play(5000)
        self.check_done(link)

    def test_both_open(self):
        opts = options()
        ends = [Endpoint(opts, 0), Endpoint(opts, 0)]
        for end in ends:
            end.write([1, 2, 3])
            end.finish()
        pieces = [end.output(0) for end in ends]
        now = 0
        while not all(end.has_ended for end in ends) and now < 1000:
            now += 1
            arrived, pieces = pieces, [[], []]
            for me, end in enumerate(ends):
                end.tick(now)
                for piece in arrived[1 - me]:
                    end.arrive(piece, now, agreed=(100, True) if piece.syn else None)
                pieces[me] = end.output(now)
        self.assertEqual([(end.phase, end.cause, end.read(9)) for end in ends], [("ended", "done", [1, 2, 3])] * 2)

    def test_an_abort_ends_both(self):
        link = Link(self, random.Random(6), options())
        link.plan = [[1] * 500, [2] * 500]
        link.play(4)
        link.ends[0].abort()
        link.send(0)
        link.play(200)
        self.assertEqual([end.cause for end in link.ends], ["aborted", "reset"])

    def test_a_link_that_breaks(self):
        link = Link(self, random.Random(7), options())
        link.plan = [[1] * 5000, [2] * 5000]
        link.play(5)
        link.loss = 1
        link.play(2000)
        self.assertEqual([end.cause for end in link.ends], ["gave up", "gave up"])

    def test_a_link_that_breaks_while_nothing_is_sent(self):
        for keep_alive, causes in ((50, ["silent", "silent"]), (0, [None, None])):
            link = Link(self, random.Random(8), options(keep_alive=keep_alive))
            link.wrote = [-1, -1]
            link.act = lambda me, end, reads: None
            link.play(20)
            link.loss = 1
            link.play(2000)
            self.assertEqual([end.cause for end in link.ends], causes)

    def test_marks_slow_a_sender_down(self):
        windows = []
        for marks in (0, 1):
            link = Link(self, random.Random(9), options(), marks=marks)
            link.plan = [[1] * 30000, []]
            link.play(200)
            windows.append(link.ends[0].control.cwnd)
        self.assertLess(windows[1], windows[0])

    def test_a_late_syn_changes_nothing(self):
        link = Link(self, random.Random(10), options())
        link.plan = [[1] * 500, [2] * 500]
        link.play(5)
        link.ends[1].arrive(Piece(0, syn=True, window=1), link.now, agreed=(8, False))
        link.play(2000)
        self.check_done(link)


if __name__ == "__main__":
    unittest.main()
