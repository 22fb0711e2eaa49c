import unittest

from throughline.offsets.piece import Piece
from throughline.sending.sender import Sender

FIELDS = ("una", "nxt", "written", "finished", "edge", "recovery", "resend", "lost", "repeated")


def octets(many, first=1):
    """The octets first, first + 1 and so on: the octet number k of a stream is k."""
    return [k % 256 for k in range(first, first + many)]


def state(sender):
    return {**{name: getattr(sender, name) for name in FIELDS}, "sacked": sender.sacked}


def ask(sender, cwnd=1000, mss=10, allow=1000, nagle=False):
    return sender.next_piece(cwnd=cwnd, mss=mss, allow=allow, nagle=nagle)


def started(many=0, room=1000, edge=1000):
    """A sender whose SYN is acknowledged, and to which so many octets were written."""
    sender = Sender(room)
    sender.mark_sent(ask(sender))
    sender.acknowledge(1, edge, [], empty=True, mss=10)
    sender.write(octets(many))
    return sender


def in_flight(many, sent=None, room=1000, edge=1000):
    """A started sender that has sent octets in pieces of 10."""
    sender = started(many, room, edge)
    sent = many if sent is None else sent
    while sender.nxt < sent + 1:
        sender.mark_sent(sender.piece(sender.nxt, min(10, sent + 1 - sender.nxt)))
    return sender


class FirstValuesTest(unittest.TestCase):
    def test_a_new_sender(self):
        sender = Sender(50)
        self.assertEqual(state(sender), {
            "una": 0, "nxt": 0, "written": 0, "finished": False, "edge": 1, "recovery": None, "resend": 0, "lost": 0,
            "repeated": 0, "sacked": []})
        self.assertIs(sender.finished, False)
        self.assertEqual((sender.room, sender.flight, sender.free), (50, 0, 50))
        self.assertIs(sender.unsent, True)
        self.assertIs(sender.all_done, False)

    def test_sacked_is_a_new_list(self):
        sender = in_flight(100)
        sender.acknowledge(1, 1000, [(31, 41)], empty=True, mss=10)
        sender.sacked.clear()
        self.assertEqual(sender.sacked, [(31, 41)])


class WritingTest(unittest.TestCase):
    def test_a_write_that_fits(self):
        sender = Sender(50)
        self.assertEqual(sender.write(octets(20)), 20)
        self.assertEqual((sender.written, sender.free), (20, 30))
        self.assertEqual(sender.write([]), 0)
        self.assertEqual(sender.write(octets(30)), 30)
        self.assertEqual((sender.written, sender.free), (50, 0))

    def test_a_write_that_does_not_fit(self):
        sender = Sender(50)
        self.assertEqual(sender.free, 50)
        self.assertEqual(sender.write(octets(60)), 50)
        self.assertEqual(sender.written, 50)
        sender.mark_sent(ask(sender))
        sender.acknowledge(1, 1000, [], empty=True, mss=10)
        self.assertEqual(sender.piece(1, 99).data, octets(50))

    def test_a_write_without_room(self):
        sender = Sender(5)
        sender.write(octets(5))
        self.assertEqual(sender.free, 0)
        self.assertEqual(sender.write([9, 9]), 0)
        self.assertEqual(sender.written, 5)

    def test_a_write_behind_the_end(self):
        sender = Sender(50)
        sender.write(octets(5))
        self.assertIsNone(sender.finish())
        self.assertIs(sender.finished, True)
        self.assertEqual(sender.free, 0)
        self.assertEqual(sender.write([9, 9]), 0)
        self.assertEqual(sender.written, 5)

    def test_acknowledged_octets_make_room(self):
        sender = in_flight(50, room=50)
        self.assertEqual(sender.free, 0)
        sender.acknowledge(21, 1000, [], empty=True, mss=10)
        self.assertEqual(sender.free, 20)
        self.assertEqual(sender.write(octets(30, first=51)), 20)
        self.assertEqual(sender.written, 70)
        self.assertEqual(sender.piece(21, 99).data, octets(50, first=21))
        self.assertEqual(sender.piece(51, 99).data, octets(20, first=51))

    def test_sacked_octets_make_no_room(self):
        sender = in_flight(50, room=50)
        sender.acknowledge(1, 1000, [(11, 51)], empty=True, mss=10)
        self.assertEqual(sender.free, 0)

    def test_the_syn_and_the_end_need_no_room(self):
        sender = Sender(5)
        sender.write(octets(5))
        sender.mark_sent(ask(sender))
        self.assertEqual(sender.free, 0)
        sender.acknowledge(1, 1000, [], empty=True, mss=10)
        self.assertEqual(sender.free, 0)
        sender.mark_sent(ask(sender))
        sender.acknowledge(6, 1000, [], empty=True, mss=10)
        self.assertEqual(sender.free, 5)

    def test_the_list_is_not_kept(self):
        sender = Sender(50)
        given = octets(5)
        sender.write(given)
        self.assertEqual(given, octets(5))
        given[:] = [0] * 9
        sender.mark_sent(ask(sender))
        sender.acknowledge(1, 1000, [], empty=True, mss=10)
        self.assertEqual(ask(sender).data, octets(5))


class StateTest(unittest.TestCase):
    def test_unsent(self):
        sender = Sender(50)
        self.assertIs(sender.unsent, True)
        sender.mark_sent(sender.piece(0, 0))
        self.assertIs(sender.unsent, False)
        sender.write(octets(5))
        self.assertIs(sender.unsent, True)
        sender.mark_sent(sender.piece(1, 4))
        self.assertIs(sender.unsent, True)
        sender.mark_sent(sender.piece(5, 1))
        self.assertIs(sender.unsent, False)
        sender.finish()
        self.assertIs(sender.unsent, True)
        sender.mark_sent(sender.piece(6, 0))
        self.assertIs(sender.unsent, False)

    def test_flight(self):
        sender = in_flight(30)
        self.assertEqual(sender.flight, 30)
        sender.acknowledge(11, 1000, [(21, 31)], empty=True, mss=10)
        self.assertEqual(sender.flight, 20)
        sender.finish()
        sender.mark_sent(ask(sender))
        self.assertEqual(sender.flight, 21)

    def test_all_done(self):
        sender = in_flight(3)
        sender.acknowledge(4, 1000, [], empty=True, mss=10)
        self.assertIs(sender.all_done, False)
        sender.finish()
        self.assertIs(sender.all_done, False)
        sender.mark_sent(ask(sender))
        self.assertIs(sender.all_done, False)
        sender.acknowledge(5, 1000, [], empty=True, mss=10)
        self.assertIs(sender.all_done, True)
        self.assertEqual((sender.una, sender.nxt, sender.flight), (5, 5, 0))
        self.assertIs(sender.unsent, False)
        self.assertIsNone(ask(sender))


class PieceTest(unittest.TestCase):
    def test_the_piece_at_0(self):
        sender = Sender(50)
        self.assertEqual(sender.piece(0, 0), Piece(0, syn=True))
        sender.write(octets(5))
        self.assertEqual(sender.piece(0, 0), Piece(0, syn=True))
        self.assertEqual(sender.piece(0, 3), Piece(0, syn=True, data=[1, 2, 3]))
        self.assertEqual(sender.piece(0, 9), Piece(0, syn=True, data=[1, 2, 3, 4, 5]))

    def test_the_piece_at_0_never_has_the_end(self):
        sender = Sender(50)
        sender.finish()
        self.assertEqual(sender.piece(0, 9), Piece(0, syn=True))
        sender = Sender(50)
        sender.write(octets(2))
        sender.finish()
        self.assertEqual(sender.piece(0, 9), Piece(0, syn=True, data=[1, 2]))

    def test_the_piece_at_una_and_at_nxt(self):
        sender = in_flight(50, sent=30)
        sender.acknowledge(11, 1000, [], empty=True, mss=10)
        self.assertEqual(sender.piece(11, 5), Piece(11, data=octets(5, first=11)))
        self.assertEqual(sender.piece(11, 99), Piece(11, data=octets(40, first=11)))
        self.assertEqual(sender.piece(20, 7), Piece(20, data=octets(7, first=20)))
        self.assertEqual(sender.piece(31, 99), Piece(31, data=octets(20, first=31)))
        self.assertEqual(sender.piece(31, 1), Piece(31, data=[31]))

    def test_a_size_of_0(self):
        sender = in_flight(50, sent=30)
        self.assertEqual(sender.piece(1, 0), Piece(1))
        self.assertEqual(sender.piece(31, 0), Piece(31))

    def test_the_piece_at_the_end_of_the_stream(self):
        sender = in_flight(20)
        self.assertEqual(sender.piece(21, 9), Piece(21))
        self.assertEqual(sender.piece(11, 10), Piece(11, data=octets(10, first=11)))
        sender.finish()
        self.assertEqual(sender.piece(21, 9), Piece(21, fin=True))
        self.assertEqual(sender.piece(21, 0), Piece(21, fin=True))
        self.assertEqual(sender.piece(11, 10), Piece(11, data=octets(10, first=11), fin=True))
        self.assertEqual(sender.piece(11, 99), Piece(11, data=octets(10, first=11), fin=True))
        self.assertEqual(sender.piece(11, 9), Piece(11, data=octets(9, first=11)))
        self.assertEqual(sender.piece(20, 1), Piece(20, data=[20], fin=True))
        self.assertEqual(sender.piece(20, 0), Piece(20))

    def test_the_piece_behind_the_end(self):
        sender = in_flight(20)
        sender.finish()
        sender.mark_sent(sender.piece(21, 0))
        self.assertEqual(sender.nxt, 22)
        self.assertEqual(sender.piece(22, 9), Piece(22))
        sender.acknowledge(22, 1000, [], empty=True, mss=10)
        self.assertEqual(sender.piece(22, 9), Piece(22))

    def test_an_empty_stream(self):
        sender = started()
        self.assertEqual(sender.piece(1, 9), Piece(1))
        sender.finish()
        self.assertEqual(sender.piece(1, 9), Piece(1, fin=True))

    def test_a_piece_carries_nothing_else(self):
        piece = in_flight(20).piece(11, 5)
        self.assertEqual((piece.ack, piece.window, piece.ranges, piece.stamp), (None, 0, [], None))
        for flag in (piece.syn, piece.fin, piece.reset, piece.marked, piece.cut):
            self.assertIs(flag, False)

    def test_a_piece_is_not_part_of_the_sender(self):
        sender = in_flight(20)
        sender.piece(1, 10).data.clear()
        ask(started(20)).data[0] = 99
        self.assertEqual(sender.piece(1, 10).data, octets(10))

    def test_asking_for_a_piece_changes_nothing(self):
        sender = in_flight(50, sent=30)
        sender.time_out()
        before = state(sender)
        sender.piece(1, 10)
        sender.piece(31, 10)
        sender.first_piece(10)
        sender.pipe(10)
        ask(sender)
        self.assertEqual(state(sender), before)
        self.assertEqual(ask(sender), ask(sender))

    def test_the_first_piece(self):
        sender = Sender(50)
        sender.write(octets(30))
        sender.mark_sent(ask(sender))
        self.assertEqual(sender.first_piece(10), Piece(0, syn=True))
        sender.acknowledge(1, 1000, [], empty=True, mss=10)
        sender.mark_sent(sender.piece(1, 7))
        self.assertEqual(sender.first_piece(10), Piece(1, data=octets(7)))
        self.assertEqual(sender.first_piece(5), Piece(1, data=octets(5)))
        sender.mark_sent(sender.piece(8, 23))
        self.assertEqual(sender.first_piece(10), Piece(1, data=octets(10)))
        sender.acknowledge(25, 1000, [], empty=True, mss=10)
        self.assertEqual(sender.first_piece(10), Piece(25, data=octets(6, first=25)))

    def test_the_first_piece_goes_over_what_is_sacked(self):
        sender = in_flight(50)
        sender.acknowledge(1, 1000, [(5, 9)], empty=True, mss=10)
        self.assertEqual(sender.first_piece(10), Piece(1, data=octets(10)))

    def test_the_first_piece_with_the_end(self):
        sender = in_flight(8)
        sender.finish()
        sender.mark_sent(ask(sender))
        self.assertEqual(sender.first_piece(20), Piece(1, data=octets(8), fin=True))
        self.assertEqual(sender.first_piece(8), Piece(1, data=octets(8), fin=True))
        self.assertEqual(sender.first_piece(7), Piece(1, data=octets(7)))
        sender.acknowledge(9, 1000, [], empty=True, mss=10)
        self.assertEqual(sender.first_piece(20), Piece(9, fin=True))


class MarkingTest(unittest.TestCase):
    def test_a_new_piece(self):
        sender = started(30)
        self.assertIsNone(sender.mark_sent(sender.piece(1, 10)))
        self.assertEqual((sender.nxt, sender.resend), (11, 1))
        sender.mark_sent(sender.piece(11, 4))
        self.assertEqual((sender.nxt, sender.resend), (15, 1))

    def test_a_piece_that_is_sent_again(self):
        sender = in_flight(30)
        sender.mark_sent(sender.piece(1, 10))
        self.assertEqual((sender.nxt, sender.resend), (31, 11))
        sender.mark_sent(sender.piece(5, 3))
        self.assertEqual((sender.nxt, sender.resend), (31, 11))
        sender.mark_sent(sender.piece(21, 10))
        self.assertEqual((sender.nxt, sender.resend), (31, 31))

    def test_a_piece_that_was_sent_in_part(self):
        sender = in_flight(30, sent=20)
        sender.mark_sent(sender.piece(15, 10))
        self.assertEqual((sender.nxt, sender.resend), (25, 25))

    def test_the_syn_and_the_end(self):
        sender = Sender(50)
        sender.mark_sent(sender.piece(0, 0))
        self.assertEqual((sender.nxt, sender.resend), (1, 0))
        sender.mark_sent(sender.piece(0, 0))
        self.assertEqual((sender.nxt, sender.resend), (1, 1))
        sender.finish()
        sender.mark_sent(sender.piece(1, 0))
        self.assertEqual((sender.nxt, sender.resend), (2, 1))


class PipeTest(unittest.TestCase):
    def test_outside_of_a_recovery(self):
        sender = in_flight(60)
        self.assertEqual(sender.pipe(10), 60)
        sender.acknowledge(1, 1000, [(11, 21)], empty=True, mss=10)
        self.assertEqual(sender.pipe(10), 50)
        sender.acknowledge(6, 1000, [(16, 26)], empty=True, mss=10)
        self.assertEqual(sender.pipe(10), 40)
        self.assertIsNone(sender.recovery)

    def test_what_is_lost_does_not_count_until_it_is_sent_again(self):
        sender = in_flight(60)
        sender.time_out()
        self.assertEqual(sender.pipe(10), 0)
        sender.mark_sent(sender.piece(1, 10))
        self.assertEqual(sender.pipe(10), 10)
        sender.write(octets(10, first=61))
        sender.mark_sent(sender.piece(61, 10))
        self.assertEqual(sender.pipe(10), 20)

    def test_only_what_is_below_the_loss_end_is_lost(self):
        sender = in_flight(60)
        sender.acknowledge(1, 1000, [(31, 52)], empty=True, mss=10)
        # 21 offsets are sacked: the loss edge for 20 is 31, for 10 it is 41, for 22 it is 0.
        self.assertEqual(sender.recovery, 61)
        self.assertEqual(sender.pipe(10), 9)
        self.assertEqual(sender.pipe(5), 9)
        self.assertEqual(sender.pipe(11), 38)
        sender.mark_sent(sender.first_piece(10))
        self.assertEqual(sender.pipe(10), 19)

    def test_sacked_offsets_among_those_that_are_lost(self):
        sender = in_flight(60)
        sender.acknowledge(1, 1000, [(11, 21), (36, 51)], empty=True, mss=10)
        # The loss edge for 20 is 15.
        self.assertEqual(sender.pipe(10), 60 - 25 - 10)
        self.assertEqual(sender.pipe(7), 10)


class NextPieceTest(unittest.TestCase):
    def test_the_syn(self):
        sender = Sender(50)
        self.assertEqual(ask(sender, cwnd=0, mss=0, allow=0), Piece(0, syn=True))
        sender.write(octets(20))
        self.assertEqual(ask(sender), Piece(0, syn=True))
        sender.finish()
        self.assertEqual(ask(sender), Piece(0, syn=True))

    def test_nothing_behind_the_syn_until_it_is_acknowledged(self):
        sender = Sender(50)
        sender.write(octets(20))
        sender.finish()
        sender.mark_sent(ask(sender))
        self.assertIsNone(ask(sender))
        sender.acknowledge(0, 100, [], empty=True, mss=10)
        self.assertIsNone(ask(sender))
        sender.acknowledge(1, 100, [], empty=True, mss=10)
        self.assertEqual(ask(sender), Piece(1, data=octets(10)))

    def test_a_lost_syn_is_sent_again_without_octets(self):
        sender = Sender(50)
        sender.write(octets(20))
        sender.mark_sent(ask(sender))
        sender.time_out()
        self.assertEqual(ask(sender), Piece(0, syn=True))
        self.assertIsNone(ask(sender, cwnd=0))
        sender.mark_sent(ask(sender))
        self.assertIsNone(ask(sender))

    def test_nothing_to_send(self):
        self.assertIsNone(ask(started()))
        self.assertIsNone(ask(in_flight(30)))

    def test_new_octets(self):
        sender = started(25)
        self.assertEqual(ask(sender), Piece(1, data=octets(10)))
        sender.mark_sent(ask(sender))
        self.assertEqual(ask(sender), Piece(11, data=octets(10, first=11)))
        sender.mark_sent(ask(sender))
        self.assertEqual(ask(sender), Piece(21, data=octets(5, first=21)))
        sender.mark_sent(ask(sender))
        self.assertIsNone(ask(sender))

    def test_a_full_piece_goes_out_behind_others(self):
        for nagle in (False, True):
            sender = in_flight(30, sent=7)
            self.assertEqual(ask(sender, nagle=nagle), Piece(8, data=octets(10, first=8)))
            self.assertEqual(ask(sender, mss=23, nagle=nagle), Piece(8, data=octets(23, first=8)))
            self.assertEqual(ask(sender, mss=22, nagle=nagle), Piece(8, data=octets(22, first=8)))

    def test_the_allowance(self):
        sender = in_flight(30, sent=7)
        for nagle in (False, True):
            self.assertEqual(ask(sender, allow=3, nagle=nagle), Piece(8, data=octets(3, first=8)))
            self.assertIsNone(ask(sender, allow=0, nagle=nagle))
        self.assertIsNone(ask(started(5), allow=0))
        self.assertEqual(ask(started(5), allow=1), Piece(1, data=[1]))

    def test_the_edge(self):
        sender = started(30, edge=5)
        # Nothing is in flight: as many octets as the edge permits.
        self.assertEqual(ask(sender), Piece(1, data=octets(4)))
        self.assertEqual(ask(sender, nagle=True), Piece(1, data=octets(4)))
        sender.mark_sent(ask(sender))
        self.assertIsNone(ask(sender))
        sender = started(30, edge=1)
        self.assertIsNone(ask(sender))
        sender = started(30, edge=11)
        self.assertEqual(ask(sender), Piece(1, data=octets(10)))
        sender = in_flight(30, sent=10, edge=15)
        # Octets are in flight, and a piece that the edge makes smaller is not worth it.
        self.assertIsNone(ask(sender))
        self.assertEqual(ask(sender, mss=4), Piece(11, data=octets(4, first=11)))
        sender = in_flight(14, sent=10, edge=15)
        self.assertEqual(ask(sender), Piece(11, data=octets(4, first=11)))
        self.assertIsNone(ask(sender, nagle=True))

    def test_the_window(self):
        sender = started(30)
        self.assertEqual(ask(sender, cwnd=4), Piece(1, data=octets(4)))
        self.assertIsNone(ask(sender, cwnd=0))
        sender = in_flight(30, sent=10)
        self.assertIsNone(ask(sender, cwnd=10))
        self.assertIsNone(ask(sender, cwnd=9))
        self.assertIsNone(ask(sender, cwnd=14))
        self.assertIsNone(ask(sender, cwnd=19))
        self.assertEqual(ask(sender, cwnd=20), Piece(11, data=octets(10, first=11)))
        sender.acknowledge(1, 1000, [(6, 9)], empty=True, mss=10)
        self.assertIsNone(ask(sender, cwnd=16))
        self.assertEqual(ask(sender, cwnd=17), Piece(11, data=octets(10, first=11)))
        self.assertEqual(ask(sender, cwnd=11, mss=4), Piece(11, data=octets(4, first=11)))

    def test_nothing_in_flight(self):
        sender = in_flight(13, sent=7)
        self.assertIsNone(ask(sender, nagle=True))
        self.assertEqual(ask(sender), Piece(8, data=octets(6, first=8)))
        sender.acknowledge(8, 1000, [], empty=True, mss=10)
        self.assertEqual(ask(sender, nagle=True), Piece(8, data=octets(6, first=8)))
        self.assertEqual(ask(sender, nagle=True, cwnd=2), Piece(8, data=[8, 9]))

    def test_all_that_is_left(self):
        sender = in_flight(13, sent=7)
        self.assertEqual(ask(sender, nagle=False), Piece(8, data=octets(6, first=8)))
        self.assertIsNone(ask(sender, nagle=True))
        self.assertIsNone(ask(sender, nagle=False, cwnd=12))
        # Without a word about nagle it is False.
        self.assertEqual(sender.next_piece(cwnd=1000, mss=10, allow=1000), Piece(8, data=octets(6, first=8)))
        sender.finish()
        self.assertEqual(ask(sender, nagle=True), Piece(8, data=octets(6, first=8), fin=True))
        self.assertIsNone(ask(sender, nagle=True, cwnd=12))

    def test_the_end_goes_with_the_last_octets(self):
        sender = started(20)
        sender.finish()
        self.assertEqual(ask(sender, mss=20), Piece(1, data=octets(20), fin=True))
        self.assertEqual(ask(sender, mss=19), Piece(1, data=octets(19)))
        sender = started(20, edge=21)
        sender.finish()
        self.assertEqual(ask(sender, mss=30), Piece(1, data=octets(20), fin=True))

    def test_the_end_alone(self):
        sender = in_flight(20)
        self.assertIsNone(ask(sender))
        sender.finish()
        self.assertEqual(ask(sender), Piece(21, fin=True))
        self.assertEqual(ask(sender, cwnd=0, allow=0, nagle=True), Piece(21, fin=True))
        sender.mark_sent(ask(sender))
        self.assertIsNone(ask(sender))
        sender = started()
        sender.finish()
        self.assertEqual(ask(sender), Piece(1, fin=True))

    def test_the_end_at_the_edge(self):
        sender = in_flight(20, edge=21)
        sender.finish()
        self.assertEqual(ask(sender), Piece(21, fin=True))
        sender = in_flight(20, sent=19, edge=20)
        sender.finish()
        self.assertIsNone(ask(sender))
        sender = in_flight(20, edge=20)
        sender.finish()
        self.assertIsNone(ask(sender))
        sender = Sender(50)
        sender.finish()
        sender.mark_sent(ask(sender))
        sender.acknowledge(1, 0, [], empty=True, mss=10)
        self.assertEqual(sender.edge, 1)
        self.assertEqual(ask(sender), Piece(1, fin=True))

    def test_the_end_waits_for_the_octets_before_it(self):
        sender = in_flight(20, sent=10)
        sender.finish()
        self.assertIsNone(ask(sender, allow=0))

    def test_what_is_lost_comes_first(self):
        sender = in_flight(60, sent=40)
        sender.time_out()
        self.assertEqual(ask(sender), Piece(1, data=octets(10)))
        self.assertEqual(ask(sender, cwnd=1, allow=0, nagle=True), Piece(1, data=octets(10)))
        self.assertIsNone(ask(sender, cwnd=0))
        sender.mark_sent(ask(sender))
        self.assertIsNone(ask(sender, cwnd=10))
        self.assertEqual(ask(sender, cwnd=11), Piece(11, data=octets(10, first=11)))

    def test_without_a_recovery_nothing_is_sent_again(self):
        sender = in_flight(60)
        sender.acknowledge(1, 1000, [(11, 21)], empty=False, mss=10)
        self.assertIsNone(ask(sender))

    def test_new_octets_follow_those_that_are_lost(self):
        sender = in_flight(60, sent=20)
        sender.time_out()
        sender.mark_sent(ask(sender))
        sender.mark_sent(ask(sender))
        self.assertEqual(sender.resend, 21)
        self.assertEqual(ask(sender), Piece(21, data=octets(10, first=21)))

    def test_what_is_lost_waits_for_the_window_and_new_octets_too(self):
        sender = in_flight(60, sent=40)
        sender.acknowledge(1, 1000, [(11, 21), (30, 41)], empty=True, mss=10)
        self.assertEqual((sender.recovery, sender.lost), (41, 2))
        # The loss edge for 20 is 11, and lost are the offsets 1 to 10; 9 offsets count for the pipe.
        self.assertEqual(sender.pipe(10), 9)
        self.assertIsNone(ask(sender, cwnd=9))
        self.assertEqual(ask(sender, cwnd=10), Piece(1, data=octets(10)))

    def test_the_free_stretch(self):
        sender = in_flight(60)
        sender.acknowledge(1, 1000, [(5, 10), (14, 50)], empty=True, mss=10)
        self.assertEqual(ask(sender), Piece(1, data=[1, 2, 3, 4]))
        sender.mark_sent(ask(sender))
        self.assertEqual(ask(sender), Piece(10, data=[10, 11, 12, 13]))
        self.assertEqual(ask(sender, mss=3), Piece(10, data=[10, 11, 12]))
        sender.mark_sent(ask(sender))
        self.assertEqual(sender.resend, 14)
        # What comes next, 50, is not below the loss end, 30.
        self.assertIsNone(ask(sender))

    def test_the_free_stretch_ends_at_nxt(self):
        sender = in_flight(60, sent=15)
        sender.time_out()
        self.assertEqual(ask(sender, mss=40), Piece(1, data=octets(15)))

    def test_a_lost_end_is_sent_again(self):
        sender = in_flight(15)
        sender.finish()
        sender.mark_sent(ask(sender))
        sender.time_out()
        self.assertEqual(ask(sender), Piece(1, data=octets(10)))
        sender.mark_sent(ask(sender))
        self.assertEqual(ask(sender), Piece(11, data=octets(5, first=11), fin=True))
        sender.acknowledge(16, 1000, [], empty=True, mss=10)
        self.assertEqual(ask(sender), Piece(16, fin=True))
        sender.mark_sent(ask(sender))
        self.assertIsNone(ask(sender))


class AcknowledgingTest(unittest.TestCase):
    def take(self, sender, ack, edge=1000, ranges=(), empty=True, mss=10):
        return sender.acknowledge(ack, edge, list(ranges), empty=empty, mss=mss)

    def test_una_moves(self):
        sender = in_flight(60)
        self.assertEqual(self.take(sender, 21), (20, False))
        self.assertEqual((sender.una, sender.nxt, sender.resend), (21, 61, 21))
        self.assertEqual(self.take(sender, 61), (40, False))
        self.assertEqual((sender.una, sender.flight, sender.resend), (61, 0, 61))
        self.assertEqual(sender.free, 1000)

    def test_the_report_is_a_pair(self):
        found = self.take(in_flight(60), 21)
        self.assertIs(found.__class__, tuple)
        self.assertIs(found[1], False)

    def test_the_syn(self):
        sender = Sender(50)
        sender.write(octets(20))
        sender.mark_sent(ask(sender))
        self.assertEqual(self.take(sender, 1, edge=9), (1, False))
        self.assertEqual((sender.una, sender.edge, sender.free), (1, 9, 30))

    def test_the_end(self):
        sender = in_flight(20)
        sender.finish()
        sender.mark_sent(ask(sender))
        self.assertEqual(self.take(sender, 21), (20, False))
        self.assertIs(sender.all_done, False)
        self.assertEqual(self.take(sender, 22), (1, False))
        self.assertIs(sender.all_done, True)

    def test_beyond_nxt_nothing_changes(self):
        sender = in_flight(60, sent=40)
        self.take(sender, 11, ranges=[(21, 26)])
        before = state(sender)
        self.assertEqual(self.take(sender, 42, edge=5000, ranges=[(31, 41)]), (0, False))
        self.assertEqual(state(sender), before)
        self.assertEqual(self.take(sender, 41, edge=5000), (30, False))
        new = Sender(50)
        self.assertEqual(self.take(new, 1), (0, False))
        self.assertEqual(state(new), state(Sender(50)))

    def test_an_old_one(self):
        sender = in_flight(60)
        self.take(sender, 31, edge=1000)
        self.assertEqual(self.take(sender, 21, edge=1200, ranges=[(41, 51)]), (0, False))
        self.assertEqual((sender.una, sender.edge, sender.repeated), (31, 1200, 0))
        self.assertEqual(sender.sacked, [(41, 51)])
        for _ in range(4):
            self.assertEqual(self.take(sender, 30, edge=1200), (0, False))
        self.assertEqual(sender.repeated, 0)

    def test_the_edge_never_goes_back(self):
        sender = in_flight(60, edge=500)
        self.take(sender, 11, edge=400)
        self.assertEqual(sender.edge, 500)
        self.take(sender, 11, edge=501)
        self.assertEqual(sender.edge, 501)

    def test_a_repeated_one_for_the_third_time(self):
        sender = in_flight(60)
        self.take(sender, 11)
        self.assertEqual(self.take(sender, 11), (0, False))
        self.assertEqual(self.take(sender, 11), (0, False))
        self.assertEqual(sender.repeated, 2)
        self.assertEqual(self.take(sender, 11), (0, True))
        self.assertEqual((sender.repeated, sender.recovery, sender.resend, sender.lost), (3, 61, 11, 12))
        self.assertEqual(self.take(sender, 11), (0, False))
        self.assertEqual((sender.repeated, sender.recovery), (4, 61))
        self.assertEqual(ask(sender), Piece(11, data=octets(10, first=11)))

    def test_what_is_a_repeated_one(self):
        def repeats(**parts):
            sender = in_flight(60)
            self.take(sender, 11, ranges=[(31, 36)])
            self.take(sender, **{"ack": 11, **parts})
            return sender.repeated

        self.assertEqual(repeats(), 1)
        self.assertEqual(repeats(edge=999), 1)
        self.assertEqual(repeats(edge=1001), 0)
        self.assertEqual(repeats(empty=False), 0)
        self.assertEqual(repeats(ranges=[(31, 36)]), 1)
        self.assertEqual(repeats(ranges=[(31, 36)], empty=False), 0)
        self.assertEqual(repeats(ranges=[(31, 37)], empty=False), 1)
        self.assertEqual(repeats(ranges=[(41, 42)], edge=1001), 1)
        self.assertEqual(repeats(ranges=[(31, 37)], edge=1001, empty=False), 1)
        self.assertEqual(repeats(ack=10), 0)
        self.assertEqual(repeats(ack=10, ranges=[(41, 42)]), 0)
        self.assertEqual(repeats(ack=12), 0)
        self.assertEqual(repeats(ack=12, ranges=[(41, 42)]), 0)

    def test_nothing_in_flight_is_no_repeated_one(self):
        sender = in_flight(60)
        self.take(sender, 61)
        for _ in range(4):
            self.assertEqual(self.take(sender, 61), (0, False))
        self.assertEqual((sender.repeated, sender.recovery), (0, None))

    def test_una_that_moves_ends_the_row(self):
        sender = in_flight(60)
        self.take(sender, 11)
        self.take(sender, 11)
        self.take(sender, 11)
        self.assertEqual(sender.repeated, 2)
        self.take(sender, 12)
        self.assertEqual(sender.repeated, 0)
        self.take(sender, 12)
        self.assertEqual(sender.repeated, 1)
        self.take(sender, 12, edge=1001)
        self.take(sender, 5)
        self.assertEqual(sender.repeated, 1)

    def test_ranges_that_count(self):
        sender = in_flight(60)
        self.take(sender, 11, ranges=[(12, 14), (51, 61), (20, 25), (24, 30)])
        self.assertEqual(sender.sacked, [(12, 14), (20, 30), (51, 61)])

    def test_ranges_that_do_not_count(self):
        sender = in_flight(60)
        self.take(sender, 11, ranges=[(11, 14), (5, 20), (0, 1), (20, 20), (30, 25), (51, 62), (61, 62), (70, 80),
                                      (9, 5)])
        self.assertEqual(sender.sacked, [])
        self.take(sender, 11, ranges=[(12, 13), (60, 61)])
        self.assertEqual(sender.sacked, [(12, 13), (60, 61)])

    def test_ranges_count_above_the_new_una(self):
        sender = in_flight(60)
        self.take(sender, 1, ranges=[(21, 31)])
        self.take(sender, 21, ranges=[(15, 18), (21, 26), (41, 45)])
        self.assertEqual(sender.sacked, [(22, 31), (41, 45)])

    def test_sacked_is_cut_below_una(self):
        sender = in_flight(60)
        self.take(sender, 1, ranges=[(11, 21), (31, 41)])
        self.take(sender, 15)
        self.assertEqual(sender.sacked, [(16, 21), (31, 41)])
        self.take(sender, 21)
        self.assertEqual(sender.sacked, [(31, 41)])
        self.take(sender, 61)
        self.assertEqual(sender.sacked, [])

    def test_the_ranges_are_not_kept(self):
        sender = in_flight(60)
        ranges = [(31, 41), (11, 21)]
        sender.acknowledge(1, 1000, ranges, empty=True, mss=10)
        self.assertEqual(ranges, [(31, 41), (11, 21)])
        ranges.clear()
        self.assertEqual(sender.sacked, [(11, 21), (31, 41)])

    def test_a_loss_by_the_loss_edge(self):
        sender = in_flight(60)
        self.assertEqual(self.take(sender, 1, ranges=[(31, 51)]), (0, False))
        self.assertEqual(self.take(sender, 1, ranges=[(31, 52)]), (0, True))
        self.assertEqual((sender.recovery, sender.resend, sender.lost, sender.repeated), (61, 1, 2, 2))

    def test_the_loss_edge_depends_on_mss(self):
        for mss, found in ((4, True), (5, False), (6, False)):
            self.assertEqual(self.take(in_flight(60), 1, ranges=[(31, 41)], mss=mss), (0, found))

    def test_a_loss_while_una_moves(self):
        sender = in_flight(60)
        self.assertEqual(self.take(sender, 6, ranges=[(31, 52)]), (5, True))
        self.assertEqual((sender.recovery, sender.resend, sender.lost), (61, 6, 7))

    def test_no_loss_with_nothing_in_flight(self):
        sender = in_flight(60)
        self.take(sender, 1, ranges=[(31, 41)])
        self.assertEqual(self.take(sender, 61, mss=0), (60, False))
        self.assertIsNone(sender.recovery)

    def test_resend_is_at_least_una(self):
        sender = in_flight(60)
        sender.time_out()
        sender.mark_sent(ask(sender))
        self.assertEqual(sender.resend, 11)
        self.take(sender, 6)
        self.assertEqual(sender.resend, 11)
        self.take(sender, 31)
        self.assertEqual(sender.resend, 31)

    def test_a_recovery_that_goes_on_while_una_moves(self):
        sender = in_flight(60)
        self.take(sender, 1, ranges=[(31, 52)])
        self.assertEqual((sender.recovery, sender.lost), (61, 2))
        self.assertEqual(self.take(sender, 1), (0, False))
        self.assertEqual(sender.lost, 2)
        self.assertEqual(self.take(sender, 11), (10, False))
        self.assertEqual((sender.recovery, sender.lost, sender.resend), (61, 12, 11))
        self.assertEqual(self.take(sender, 60), (49, False))
        self.assertEqual((sender.recovery, sender.lost), (61, 61))

    def test_lost_does_not_go_back(self):
        sender = in_flight(60)
        sender.time_out()
        self.assertEqual(sender.lost, 61)
        self.take(sender, 11)
        self.assertEqual((sender.recovery, sender.lost), (61, 61))

    def test_a_recovery_that_ends(self):
        sender = in_flight(60, sent=40)
        sender.time_out()
        self.assertEqual(sender.recovery, 41)
        sender.mark_sent(sender.piece(1, 10))
        sender.mark_sent(sender.piece(41, 20))
        self.assertEqual(self.take(sender, 40), (39, False))
        self.assertEqual((sender.recovery, sender.lost), (41, 41))
        self.assertEqual(self.take(sender, 41), (1, False))
        self.assertEqual((sender.recovery, sender.lost, sender.flight), (None, 0, 20))

    def test_a_recovery_that_ends_beyond_its_offset(self):
        sender = in_flight(60, sent=40)
        sender.time_out()
        sender.mark_sent(sender.piece(41, 20))
        self.take(sender, 51)
        self.assertEqual((sender.recovery, sender.lost), (None, 0))

    def test_a_recovery_that_ends_and_the_next_one_that_begins(self):
        sender = in_flight(90, sent=40)
        sender.time_out()
        sender.mark_sent(sender.piece(41, 50))
        self.assertEqual(self.take(sender, 41, ranges=[(61, 91)]), (40, True))
        self.assertEqual((sender.recovery, sender.resend, sender.lost, sender.repeated), (91, 41, 42, 0))

    def test_a_long_recovery(self):
        sender = in_flight(60)
        self.assertEqual(self.take(sender, 1, ranges=[(11, 21), (31, 41), (51, 61)]), (0, True))
        self.assertEqual(ask(sender), Piece(1, data=octets(10)))
        sender.mark_sent(ask(sender))
        # The loss edge for 20 is 20: what lies above it is not lost yet.
        self.assertIsNone(ask(sender))
        self.assertEqual(self.take(sender, 21), (20, False))
        self.assertEqual(ask(sender), Piece(21, data=octets(10, first=21)))
        sender.mark_sent(ask(sender))
        self.assertIsNone(ask(sender))
        self.assertEqual(self.take(sender, 41), (20, False))
        self.assertEqual(ask(sender), Piece(41, data=octets(10, first=41)))
        self.assertEqual(self.take(sender, 61), (20, False))
        self.assertIsNone(sender.recovery)


class TimeoutTest(unittest.TestCase):
    def test_with_nothing_in_flight(self):
        for sender in (Sender(50), started(20), in_flight(0)):
            before = state(sender)
            self.assertIsNone(sender.time_out())
            self.assertEqual(state(sender), before)
        sender = in_flight(60)
        sender.time_out()
        sender.acknowledge(61, 1000, [], empty=True, mss=10)
        before = state(sender)
        sender.time_out()
        self.assertEqual(state(sender), before)

    def test_with_octets_in_flight(self):
        sender = in_flight(60)
        sender.acknowledge(11, 1000, [(31, 41)], empty=True, mss=10)
        sender.acknowledge(11, 1000, [(41, 45)], empty=True, mss=10)
        self.assertEqual(sender.repeated, 1)
        self.assertIsNone(sender.time_out())
        self.assertEqual(state(sender), {
            "una": 11, "nxt": 61, "written": 60, "finished": False, "edge": 1000, "recovery": 61, "resend": 11,
            "lost": 61, "repeated": 0, "sacked": []})

    def test_in_a_recovery(self):
        sender = in_flight(60, sent=40)
        sender.acknowledge(1, 1000, [(11, 41)], empty=True, mss=10)
        sender.mark_sent(ask(sender))
        sender.mark_sent(sender.piece(41, 20))
        self.assertEqual((sender.recovery, sender.resend), (41, 11))
        sender.time_out()
        self.assertEqual((sender.recovery, sender.resend, sender.lost, sender.sacked), (61, 1, 61, []))
        self.assertEqual(sender.pipe(10), 0)

    def test_the_syn_alone(self):
        sender = Sender(50)
        sender.mark_sent(ask(sender))
        sender.time_out()
        self.assertEqual((sender.recovery, sender.resend, sender.lost), (1, 0, 1))


if __name__ == "__main__":
    unittest.main()
