"""Forks of senders, receivers, sets and options: equal at first, and each goes on alone."""

import random
import unittest

from tests.endpoints import RECEIVER_FIELDS, SENDER_FIELDS, options
from throughline.offsets.piece import Piece
from throughline.offsets.sets import OffsetSet
from throughline.receiving.receiver import Receiver
from throughline.sending.sender import Sender


def sender_state(sender):
    return [getattr(sender, name) for name in SENDER_FIELDS]


def receiver_state(receiver):
    return [getattr(receiver, name) for name in RECEIVER_FIELDS] + [receiver.held_ranges()]


def use_sender(draws, sender, other):
    """Does the same with both, and returns what both have returned."""
    found = []
    for one in (sender, other):
        seed = random.Random(draws)
        got = [one.write([seed.randrange(256) for _ in range(seed.randrange(40))])]
        piece = one.next_piece(cwnd=200, mss=10, allow=seed.randrange(30))
        if piece is not None:
            one.mark_sent(piece)
        got.append(piece)
        una, nxt = one.una, one.nxt
        start = seed.randint(una, nxt)
        ack = seed.choice([una, una, seed.randint(una, nxt)])
        got.append(one.acknowledge(ack, ack + 60, [(start, seed.randint(start, nxt))], empty=True, mss=2))
        if seed.random() < 0.05:
            one.time_out()
        if seed.random() < 0.05:
            one.finish()
        if one.una < one.nxt:
            got.append(one.first_piece(10))
        found.append(got)
    return found


def use_receiver(draws, receiver, other):
    found = []
    for one in (receiver, other):
        seed = random.Random(draws)
        start = max(0, one.nxt + seed.randrange(-5, 20))
        one.arrive(Piece(start, data=[start % 256] * seed.randrange(6), syn=start == 0, fin=seed.random() < 0.02))
        found.append([one.read(seed.randrange(4)), one.advertise(10), one.held_ranges()])
    return found


class ForkTest(unittest.TestCase):
    def test_senders(self):
        for seed in range(40):
            sender = Sender(100)
            for step in range(40):
                other = sender.fork()
                self.assertEqual(sender_state(other), sender_state(sender))
                before = sender_state(sender)
                one, two = use_sender(step + 1000 * seed, sender.fork(), other)
                self.assertEqual(one, two)
                self.assertEqual(sender_state(sender), before)
                sender = other

    def test_receivers(self):
        for seed in range(40):
            receiver = Receiver(100)
            receiver.arrive(Piece(0, syn=True))
            for step in range(40):
                other = receiver.fork()
                self.assertEqual(receiver_state(other), receiver_state(receiver))
                before = receiver_state(receiver)
                one, two = use_receiver(step + 1000 * seed, receiver.fork(), other)
                self.assertEqual(one, two)
                self.assertEqual(receiver_state(receiver), before)
                receiver = other

    def test_new_ones(self):
        self.assertEqual(sender_state(Sender(7).fork()), sender_state(Sender(7)))
        self.assertEqual(receiver_state(Receiver(7).fork()), receiver_state(Receiver(7)))

    def test_sets(self):
        offsets = OffsetSet([(3, 5), (9, 12)])
        other = offsets.fork()
        self.assertEqual(other, offsets)
        other.include(5, 9)
        other.discard_below(4)
        self.assertEqual((list(offsets), list(other)), ([(3, 5), (9, 12)], [(4, 12)]))
        offsets.include(20, 21)
        self.assertEqual(list(other), [(4, 12)])

    def test_options(self):
        for more in ({}, {"mss": 99, "room": 998, "life": 49, "pace": 97, "tries": 5, "min_rto": 9, "max_rto": 79,
                          "ack_delay": 3, "keep_alive": 6, "nagle": True, "control": "cubic"}):
            given = options(**more)
            other = given.fork()
            self.assertEqual(other, given)
            self.assertIsNot(other, given)


if __name__ == "__main__":
    unittest.main()
