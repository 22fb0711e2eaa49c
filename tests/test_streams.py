"""A sender and a receiver, between which pieces and acknowledgements are lost, repeated, delayed and reordered."""

import random
import unittest

from throughline.receiving.receiver import Receiver
from throughline.sending.sender import Sender


class Link:
    """Carries things one way; each of them is lost, or arrives once or several times, each time after a delay."""

    def __init__(self, draws, loss, repeat, delay):
        self.draws, self.loss, self.repeat, self.delay = draws, loss, repeat, delay
        self.under_way = []

    def send(self, now, thing):
        if self.draws.random() >= self.loss:
            for _ in range(2 if self.draws.random() < self.repeat else 1):
                self.under_way.append((now + self.draws.randint(1, self.delay), thing))

    def arrivals(self, now):
        due = [thing for tick, thing in self.under_way if tick <= now]
        self.under_way = [(tick, thing) for tick, thing in self.under_way if tick > now]
        self.draws.shuffle(due)
        return due


class StreamsTest(unittest.TestCase):
    def write(self, sender, stream, done, draws):
        if done < len(stream):
            return done + sender.write(stream[done:done + draws.randrange(60)])
        sender.finish()
        return done

    def play(self, seed, loss, repeat, delay, with_ranges=True):
        draws = random.Random(seed)
        room, mss = draws.choice([20, 80, 400]), draws.choice([8, 10, 16])
        nagle = draws.random() < 0.5
        stream = [draws.randrange(256) for _ in range(draws.choice([0, 1, 500, 1500]))]
        sender, receiver = Sender(room), Receiver(draws.choice([20, 80, 400]))
        there, back = Link(draws, loss, repeat, delay), Link(draws, loss, repeat, delay)
        written, found, last, now = 0, [], 0, 0
        while not (sender.all_done and receiver.at_end):
            now += 1
            self.assertLess(now, 60000)
            written = self.write(sender, stream, written, draws)
            for piece in there.arrivals(now):
                receiver.arrive(piece)
                back.send(now, (receiver.nxt, receiver.advertise(mss), receiver.held_ranges(), True))
            if draws.randrange(5) == 0:
                found += receiver.read(draws.randrange(1, 100))
                self.assertEqual(found, stream[:len(found)])
            if draws.randrange(40) == 0 and receiver.nxt > 0:
                back.send(now, (receiver.nxt, receiver.advertise(mss), receiver.held_ranges(), False))
            for ack, window, ranges, empty in back.arrivals(now):
                ranges = ranges if with_ranges else []
                moved, loss_found = sender.acknowledge(ack, ack + window, ranges, empty=empty, mss=mss)
                last = now if moved or loss_found else last
            if now - last > 6 * delay:
                sender.time_out()
                last = now
            for _ in range(8):
                piece = sender.next_piece(cwnd=6 * mss, mss=mss, allow=1000, nagle=nagle)
                if piece is None:
                    break
                sender.mark_sent(piece)
                there.send(now, piece)
        found += receiver.read(receiver.ready)
        self.assertEqual(written, len(stream))
        self.assertEqual(found, stream)

    def test_a_good_network(self):
        for seed in range(10):
            with self.subTest(seed=seed):
                self.play(seed, 0, 0, 1)

    def test_lost(self):
        for seed in range(10):
            with self.subTest(seed=seed):
                self.play(seed, 0.3, 0, 3)

    def test_repeated_delayed_and_reordered(self):
        for seed in range(10):
            with self.subTest(seed=seed):
                self.play(seed, 0, 0.5, 20)

    def test_all_at_once(self):
        for seed in range(20):
            with self.subTest(seed=seed):
                self.play(seed, 0.25, 0.3, 12)

    def test_without_ranges(self):
        for seed in range(10):
            with self.subTest(seed=seed):
                self.play(seed, 0.2, 0.3, 8, with_ranges=False)


if __name__ == "__main__":
    unittest.main()
