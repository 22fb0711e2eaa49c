"""Sockets (points 81 to 85)."""

import unittest

from tests.endpoints import answer, ended, in_phase, options
from throughline.endpoint.endpoint import Endpoint
from throughline.host.socket import Socket, agreed_values
from throughline.offsets.piece import Piece
from throughline.wire.segment import Segment

CIRCLE = 4294967296
HALF = 2147483648
FIELDS = ("count", "port", "peer", "peer_port", "peer_count", "peer_first", "peer_shift", "listened", "accepted")


def fields(socket):
    return tuple(getattr(socket, name) for name in FIELDS)


def made(endpoint=None, *, learnt=True, shift=0, first=1000, count=3, **changed):
    """A socket with the count 3 at the port 80, whose peer is 5000 at the address 9, with the count 40."""
    endpoint = Endpoint(options(**changed), 0) if endpoint is None else endpoint
    socket = Socket(count, 80, 9, 5000, endpoint)
    if learnt:
        socket.learn(Segment(5000, 80, seq=first, count=40, syn=True, scale=shift))
    return socket


def segment(**parts):
    """A segment of the peer."""
    return Segment(5000, 80, **{"seq": 1001, "count": 40, "echo": 3, **parts})


def sending(socket, una, nxt):
    socket.endpoint.sender.una = una
    socket.endpoint.sender.nxt = nxt
    return socket


class FieldsTest(unittest.TestCase):
    def test_one_that_has_learnt_nothing(self):
        endpoint = Endpoint(options(), 0)
        socket = Socket(7, 80, 9, 5000, endpoint)
        self.assertEqual(fields(socket), (7, 80, 9, 5000, None, None, None, False, False))
        self.assertIs(Socket(7, 80, 9, 5000, endpoint, listened=True).listened, True)
        self.assertEqual(socket.endpoint.phase, "syn sent")

    def test_the_first_number(self):
        for count, first in ((0, 0), (1, 2654435761), (2, 1013904226), (4294967295, CIRCLE - 2654435761)):
            self.assertEqual(Socket(count, 80, 9, 5000, None).first, first)
        for count in (3, 10, 999999):
            self.assertEqual(Socket(count, 80, 9, 5000, None).first, count * 2654435761 % CIRCLE)


class LearnTest(unittest.TestCase):
    def test_a_segment_with_syn(self):
        socket = made(learnt=False)
        self.assertIsNone(socket.learn(segment(syn=True, seq=77, count=40, scale=5)))
        self.assertEqual(fields(socket), (3, 80, 9, 5000, 40, 77, 5, False, False))

    def test_a_segment_without_scale(self):
        socket = made(learnt=False)
        socket.learn(segment(syn=True, seq=0, count=0))
        self.assertEqual((socket.peer_count, socket.peer_first, socket.peer_shift), (0, 0, None))
        # Also a count, a first number and a shift of 0 or None are known then.
        socket.learn(segment(syn=True, seq=5, count=6, scale=7))
        self.assertEqual((socket.peer_count, socket.peer_first, socket.peer_shift), (0, 0, None))

    def test_other_segments(self):
        for one in (segment(), segment(syn=True, reset=True), segment(reset=True), segment(fin=True, data=[1])):
            socket = made(learnt=False)
            socket.learn(one)
            self.assertEqual((socket.peer_count, socket.peer_first, socket.peer_shift), (None, None, None))

    def test_it_learns_only_once(self):
        socket = made(learnt=False)
        socket.learn(segment(syn=True, seq=77, count=40, scale=5))
        for one in (segment(syn=True, seq=78, count=41, scale=6), segment(syn=True, seq=77, count=40, scale=6)):
            socket.learn(one)
            self.assertEqual((socket.peer_count, socket.peer_first, socket.peer_shift), (40, 77, 5))


class IsForTest(unittest.TestCase):
    def test_the_place(self):
        for learnt in (True, False):
            socket = made(learnt=learnt)
            self.assertIs(socket.is_for(segment(), 9), True)
            self.assertIs(socket.is_for(segment(), 8), False)
            self.assertIs(socket.is_for(Segment(5001, 80, seq=1, count=40, echo=3), 9), False)
            self.assertIs(socket.is_for(Segment(5000, 81, seq=1, count=40, echo=3), 9), False)
            self.assertIs(socket.is_for(Segment(80, 5000, seq=1, count=40, echo=3), 9), False)
            self.assertIs(socket.is_for(Segment(5000, 80, seq=1, count=40, syn=True), 8), False)

    def test_an_echo_where_the_peer_is_known(self):
        for more in ({}, {"reset": True}, {"syn": True}, {"syn": True, "reset": True}):
            self.assertIs(made().is_for(segment(**more), 9), True)
            self.assertIs(made().is_for(segment(count=41, **more), 9), False)
            self.assertIs(made().is_for(segment(echo=4, **more), 9), False)
            self.assertIs(made().is_for(segment(echo=40, count=3, **more), 9), False)
            self.assertIs(made().is_for(segment(echo=0, **more), 9), False)

    def test_an_echo_where_the_peer_is_not_known(self):
        for more in ({}, {"reset": True}, {"syn": True}):
            self.assertIs(made(learnt=False).is_for(segment(**more), 9), True)
            self.assertIs(made(learnt=False).is_for(segment(count=41, **more), 9), True)
            self.assertIs(made(learnt=False).is_for(segment(echo=4, **more), 9), False)

    def test_an_echo_of_0(self):
        self.assertIs(made(count=0).is_for(segment(echo=0), 9), True)
        self.assertIs(made(learnt=False, count=0).is_for(segment(echo=0), 9), True)

    def test_an_echo_at_one_that_has_ended(self):
        for learnt in (True, False):
            self.assertIs(made(ended("aborted"), learnt=learnt).is_for(segment(), 9), True)

    def test_no_echo_where_the_peer_is_known(self):
        for endpoint in (None, ended("done")):
            socket = made(endpoint)
            self.assertIs(socket.is_for(segment(echo=None, syn=True), 9), True)
            self.assertIs(socket.is_for(segment(echo=None, syn=True, count=41), 9), False)
            self.assertIs(socket.is_for(segment(echo=None, syn=True, reset=True), 9), False)
            self.assertIs(socket.is_for(segment(echo=None), 9), False)
            self.assertIs(socket.is_for(segment(echo=None, reset=True), 9), False)

    def test_no_echo_where_the_peer_is_not_known(self):
        socket = made(learnt=False)
        self.assertIs(socket.is_for(segment(echo=None, syn=True), 9), True)
        self.assertIs(socket.is_for(segment(echo=None, syn=True, count=41), 9), True)
        self.assertIs(socket.is_for(segment(echo=None, syn=True, reset=True), 9), False)
        self.assertIs(socket.is_for(segment(echo=None), 9), False)
        self.assertIs(socket.is_for(segment(echo=None, reset=True), 9), False)
        self.assertIs(made(ended("refused"), learnt=False).is_for(segment(echo=None, syn=True), 9), False)

    def test_the_peer_has_the_count_0(self):
        socket = made(learnt=False)
        socket.learn(segment(syn=True, count=0))
        self.assertIs(socket.is_for(segment(count=0), 9), True)
        self.assertIs(socket.is_for(segment(count=1), 9), False)
        self.assertIs(socket.is_for(segment(count=1, echo=None, syn=True), 9), False)


class ToSegmentTest(unittest.TestCase):
    def test_all_parts(self):
        piece = Piece(5, data=[1, 2], fin=True, ack=7, window=500, ranges=[(9, 12), (20, 22)], marked=True, cut=True,
                      stamp=(3, 4))
        socket = made()
        expected = Segment(80, 5000, seq=(3 * 2654435761 + 5) % CIRCLE, count=3, echo=40, ack=1007, fin=True,
                           marked=True, cut=True, window=500, ranges=[(1009, 1012), (1020, 1022)], stamp=(3, 4),
                           data=[1, 2])
        self.assertEqual(socket.to_segment(piece), expected)

    def test_no_parts(self):
        self.assertEqual(made().to_segment(Piece(0)), Segment(80, 5000, seq=3 * 2654435761 % CIRCLE, count=3, echo=40))

    def test_numbers_wrap(self):
        socket = made(first=CIRCLE - 2)
        found = socket.to_segment(Piece(CIRCLE + 7, ack=5, ranges=[(1, 2), (2, CIRCLE + 3)]))
        self.assertEqual((found.seq, found.ack, found.ranges),
                         ((socket.first + 7) % CIRCLE, 3, [(CIRCLE - 1, 0), (0, 1)]))

    def test_a_syn(self):
        socket = made(learnt=False, mss=500, room=200000)
        found = socket.to_segment(Piece(0, syn=True, window=70000, stamp=(1, 0)))
        self.assertEqual(found, Segment(80, 5000, seq=socket.first, count=3, syn=True, window=65535, mss=500, scale=2,
                                        ranges_known=True, stamp=(1, 0)))

    def test_the_mss_of_a_syn_is_the_option(self):
        socket = made(mss=500)
        socket.endpoint.mss = 64
        self.assertEqual(socket.to_segment(Piece(0, syn=True)).mss, 500)

    def test_the_shift_of_the_host(self):
        for room, shift in ((65535, 0), (65536, 1), (131071, 1), (131072, 2), (262144, 3)):
            found = made(room=room).to_segment(Piece(0, syn=True))
            self.assertEqual(found.scale, shift)

    def test_a_peer_that_is_not_known(self):
        found = made(learnt=False).to_segment(Piece(1, ack=5, ranges=[(6, 8)], data=[1]))
        self.assertEqual((found.ack, found.ranges, found.echo), (None, [], None))

    def test_a_reset(self):
        self.assertEqual(made().to_segment(Piece(5, reset=True)),
                         Segment(80, 5000, seq=(3 * 2654435761 + 5) % CIRCLE, count=3, echo=40, reset=True))

    def test_the_window(self):
        for shift, room, syn, window, expected in (
                (0, 131072, False, 1001, 250), (7, 131072, False, 1003, 250), (14, 131072, False, 1004, 251),
                (None, 131072, False, 1001, 1001), (3, 131072, True, 1001, 1001), (3, 1000, False, 1001, 1001),
                (0, 131072, False, 262143, 65535), (0, 131072, False, 262144, 65535), (0, 131072, False, 300000, 65535),
                (None, 131072, False, 65536, 65535), (3, 131072, True, 65536, 65535), (3, 131072, True, 65535, 65535),
                (0, 131072, False, 3, 0)):
            socket = made(shift=shift, room=room)
            self.assertEqual(socket.to_segment(Piece(0, syn=syn, window=window)).window, expected)

    def test_the_window_where_the_peer_is_not_known(self):
        socket = made(learnt=False, room=131072)
        self.assertEqual(socket.to_segment(Piece(1, window=1001)).window, 1001)
        self.assertEqual(socket.to_segment(Piece(1, window=70000)).window, 65535)

    def test_the_piece_is_not_kept(self):
        piece = Piece(1, data=[1], ranges=[(1, 2)])
        found = made().to_segment(piece)
        piece.data.append(2)
        piece.ranges.append((3, 4))
        self.assertEqual((found.data, found.ranges), ([1], [(1001, 1002)]))


class ToPieceTest(unittest.TestCase):
    def test_all_parts(self):
        socket = sending(made(), 1, 500)
        own = socket.first
        found = socket.to_piece(segment(seq=1005, ack=(own + 20) % CIRCLE, fin=True, marked=True, cut=True, window=300,
                                        ranges=[((own + 30) % CIRCLE, (own + 40) % CIRCLE)], stamp=(6, 7), data=[1, 2]))
        self.assertEqual(found, Piece(5, data=[1, 2], fin=True, ack=20, window=300, ranges=[(30, 40)], marked=True,
                                      cut=True, stamp=(6, 7)))

    def test_no_parts(self):
        self.assertEqual(made().to_piece(segment(seq=1000)), Piece(0))
        self.assertEqual(made().to_piece(segment(seq=1001, echo=None)), Piece(1))

    def test_a_syn(self):
        for learnt in (True, False):
            for seq in (1000, 5, 1001):
                socket = made(learnt=learnt)
                found = socket.to_piece(segment(seq=seq, syn=True, data=[4], window=70, scale=3, mss=5))
                self.assertEqual(found, Piece(0, syn=True, data=[4], window=70))

    def test_it_does_not_learn(self):
        socket = made(learnt=False)
        socket.to_piece(segment(syn=True))
        self.assertEqual((socket.peer_count, socket.peer_first, socket.peer_shift), (None, None, None))

    def test_a_peer_that_is_not_known(self):
        for one in (segment(), segment(data=[1], ack=5), segment(fin=True)):
            self.assertIsNone(made(learnt=False).to_piece(one))

    def test_seq_is_read_near_nxt_of_the_receiver(self):
        socket = made()
        for nxt, seq, start in ((0, 1000 + HALF - 1, HALF - 1), (HALF, 1000, 0), (HALF, 999, CIRCLE - 1),
                                (HALF + 1, 1000, CIRCLE), (HALF + 1, 1001, 1), (5 * CIRCLE, 1007, 5 * CIRCLE + 7),
                                (5 * CIRCLE, 993, 5 * CIRCLE - 7)):
            socket.endpoint.receiver.nxt = nxt
            self.assertEqual(socket.to_piece(segment(seq=seq)).start, start)

    def test_no_offset_is_read_for_seq(self):
        socket = made()
        socket.endpoint.receiver.nxt = 5
        for seq in (999, 995, (1000 + 5 - HALF) % CIRCLE, (1000 + 6 + HALF) % CIRCLE):
            self.assertIsNone(socket.to_piece(segment(seq=seq)))
        self.assertEqual(socket.to_piece(segment(seq=(1000 + 4 + HALF) % CIRCLE)).start, HALF + 4)
        # A syn and a reset need none.
        self.assertEqual(socket.to_piece(segment(seq=999, syn=True)).start, 0)
        self.assertEqual(socket.to_piece(segment(seq=999, reset=True)).start, 5)

    def test_ack_is_read_near_una(self):
        socket = made()
        own = socket.first
        for una, offset in ((1, 0), (1, 1), (1, 500), (CIRCLE, CIRCLE + 9), (CIRCLE, CIRCLE - 9), (7, HALF + 6)):
            sending(socket, una, una)
            self.assertEqual(socket.to_piece(segment(ack=(own + offset) % CIRCLE)).ack, offset)

    def test_no_offset_is_read_for_ack(self):
        socket = made()
        own = socket.first
        for una, number in ((1, own - 1), (1, own - 100), (7, own + 7 + HALF), (0, own + HALF)):
            sending(socket, una, una)
            for more in ({}, {"syn": True}, {"data": [1]}):
                self.assertIsNone(socket.to_piece(segment(ack=number % CIRCLE, **more)))
        self.assertIsNone(socket.to_piece(segment()).ack)

    def test_an_ack_of_0_is_an_ack(self):
        socket = made(count=0)
        self.assertEqual(socket.first, 0)
        self.assertEqual(socket.to_piece(segment(ack=0, echo=0)).ack, 0)

    def test_a_reset(self):
        for learnt in (True, False):
            socket = made(learnt=learnt)
            socket.endpoint.receiver.nxt = 12
            for seq, ack in ((5, None), (999, 7), (1012, (socket.first - 1) % CIRCLE)):
                found = socket.to_piece(segment(seq=seq, ack=ack, reset=True))
                self.assertEqual(found, Piece(12, reset=True))

    def test_other_parts_of_a_reset(self):
        socket = sending(made(shift=3), 1, 500)
        own = socket.first
        found = socket.to_piece(segment(reset=True, syn=True, fin=True, marked=True, cut=True, window=9, stamp=(1, 2),
                                        ranges=[(own + 4, own + 6)], data=[1, 2]))
        self.assertEqual(found, Piece(0, reset=True, syn=True, fin=True, marked=True, cut=True, window=9, stamp=(1, 2),
                                      ranges=[(4, 6)], data=[1, 2]))
        self.assertEqual(socket.to_piece(segment(reset=True, window=9)).window, 72)

    def test_the_window(self):
        for shift in range(15):
            for window in (0, 1, 65535):
                socket = made(shift=shift)
                self.assertEqual(socket.to_piece(segment(window=window)).window, window * 2 ** shift)
                self.assertEqual(socket.to_piece(segment(window=window, syn=True)).window, window)
        self.assertEqual(made(shift=None).to_piece(segment(window=65535)).window, 65535)
        self.assertEqual(made(learnt=False).to_piece(segment(window=9, syn=True, scale=4)).window, 9)

    def test_the_own_shift_has_no_effect(self):
        self.assertEqual(made(shift=1, room=262144).to_piece(segment(window=9)).window, 18)

    def test_ranges(self):
        socket = sending(made(), 100, 500)
        own = socket.first
        pairs = [(150, 160), (90, 95), (170, 170), (190, 180), (-1, 200), (-5, -3), (300, 300 + HALF), (200, 201),
                 (100 - HALF, 250), (0, 1)]
        found = socket.to_piece(segment(ranges=[((own + a) % CIRCLE, (own + b) % CIRCLE) for a, b in pairs]))
        self.assertEqual(found.ranges, [(150, 160), (90, 95), (200, 201), (0, 1)])

    def test_ranges_are_read_near_una(self):
        for una in (1, CIRCLE + 5, 7 * HALF):
            socket = sending(made(), una, una)
            own = socket.first
            found = socket.to_piece(segment(ranges=[((own + una + 3) % CIRCLE, (own + una + HALF - 1) % CIRCLE)]))
            self.assertEqual(found.ranges, [(una + 3, una + HALF - 1)])

    def test_the_segment_is_not_kept(self):
        one = segment(data=[1])
        found = made().to_piece(one)
        one.data.append(2)
        self.assertEqual(found.data, [1])

    def test_back_and_forth(self):
        one, other = made(learnt=False, count=3), Socket(40, 5000, 7, 80, Endpoint(options(room=200000), 0))
        syn = one.to_segment(Piece(0, syn=True, window=1000))
        other.learn(syn)
        one.learn(other.to_segment(Piece(0, syn=True, window=900)))
        for piece in (Piece(0, syn=True, window=70), Piece(1, data=[1, 2], ack=1, window=64), Piece(9, fin=True, ack=5,
                      window=8, ranges=[(7, 9), (11, 12)], marked=True, cut=True, stamp=(4, 5))):
            self.assertEqual(other.to_piece(one.to_segment(piece)), piece)
            self.assertEqual(one.to_piece(other.to_segment(piece)), piece)


class AgreedValuesTest(unittest.TestCase):
    def test_the_mss(self):
        for option, given, expected in ((100, 100, 100), (100, 99, 99), (100, 101, 100), (100, 65535, 100), (100, 8, 8),
                                        (100, 7, 8), (100, 0, 8), (100, None, 100), (536, None, 536), (537, None, 536),
                                        (1460, None, 536), (8, 1000, 8), (8, None, 8)):
            found = agreed_values(options(mss=option, room=5000), segment(syn=True, mss=given))
            self.assertEqual(found, (expected, False))

    def test_whether_ranges_are_known(self):
        self.assertEqual(agreed_values(options(), segment(syn=True, ranges_known=True)), (100, True))


class TakeTest(unittest.TestCase):
    def test_a_syn_gives_the_agreed_values(self):
        socket = made(in_phase("syn sent"), learnt=False)
        taken = socket.take_segment(segment(seq=1000, syn=True, ack=socket.first + 1, mss=64, ranges_known=True,
                                            scale=2, window=500), 20, marked=False)
        self.assertIs(taken, True)
        endpoint = socket.endpoint
        self.assertEqual((endpoint.phase, endpoint.mss, endpoint.selective, endpoint.sender.edge, endpoint.since),
                         ("established", 64, True, 501, 20))
        self.assertEqual((socket.peer_count, socket.peer_first, socket.peer_shift), (40, 1000, 2))

    def test_the_mark_of_the_packet(self):
        for marked in (True, False):
            socket = made(in_phase("established"))
            socket.take_segment(segment(seq=1001), 20, marked=marked)
            self.assertIs(socket.endpoint.marked, marked)

    def test_a_segment_that_is_dropped(self):
        socket = made(in_phase("syn sent"), learnt=False)
        before = socket.endpoint.since
        for one in (segment(), segment(syn=True, ack=socket.first - 1)):
            self.assertIs(socket.take_segment(one, 20, marked=True), False)
            self.assertEqual((socket.peer_count, socket.endpoint.since, socket.endpoint.phase),
                             (None, before, "syn sent"))

    def test_a_syn_without_the_agreed_values_of_a_later_one(self):
        socket = made(in_phase("established"))
        socket.take_segment(segment(seq=1000, syn=True, mss=8, ranges_known=False), 20, marked=False)
        self.assertEqual((socket.endpoint.mss, socket.endpoint.selective, socket.endpoint.asked), (100, True, True))

    def test_the_window_of_a_syn_counts_without_a_shift(self):
        socket = made(in_phase("syn sent"), learnt=False)
        socket.take_segment(segment(syn=True, ack=socket.first + 1, scale=4, window=3), 1, marked=False)
        self.assertEqual(socket.endpoint.sender.edge, 4)
        socket.take_segment(segment(ack=socket.first + 1, window=3), 1, marked=False)
        self.assertEqual(socket.endpoint.sender.edge, 49)

    def test_a_reset_is_taken(self):
        socket = made(in_phase("syn sent"), learnt=False)
        self.assertIs(socket.take_segment(segment(reset=True, ack=5), 20, marked=False), True)
        self.assertEqual((socket.endpoint.cause, socket.peer_count), ("refused", None))
        socket = made(in_phase("established"))
        socket.take_segment(segment(reset=True, syn=True, count=40, seq=3), 20, marked=False)
        self.assertEqual((socket.endpoint.cause, socket.peer_first), ("reset", 1000))

    def test_what_it_sends(self):
        socket = made(in_phase("established"))
        socket.endpoint.write([1, 2])
        found = socket.output(20)
        self.assertEqual([(one.source, one.target, one.data, one.ack, one.echo) for one in found],
                         [(80, 5000, [1, 2], 1001, 40)])
        self.assertEqual(socket.output(20), [])


class ForkTest(unittest.TestCase):
    def test_a_fork(self):
        endpoint = in_phase("established")
        socket = Socket(3, 80, 9, 5000, endpoint, listened=True)
        socket.accepted = True
        for learnt in (False, True):
            if learnt:
                socket.learn(segment(syn=True, seq=77, scale=5))
            other = socket.fork()
            self.assertEqual(fields(other), fields(socket))
            self.assertIsNot(other.endpoint, socket.endpoint)
            other.endpoint.write([1, 2, 3])
            self.assertEqual(socket.endpoint.sender.written, 0)
        other = made(learnt=False).fork()
        self.assertEqual(fields(other), (3, 80, 9, 5000, None, None, None, False, False))

    def test_what_a_fork_learns(self):
        socket = made(learnt=False)
        other = socket.fork()
        other.learn(segment(syn=True))
        other.endpoint.arrive(answer(0, syn=True), 1, agreed=(8, True))
        self.assertEqual((socket.peer_count, socket.endpoint.phase), (None, "syn sent"))


if __name__ == "__main__":
    unittest.main()
