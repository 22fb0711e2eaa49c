"""What an endpoint sends (points 74 to 77)."""

import unittest

from tests.endpoints import CAUSES, PHASES, answer, changes, ended, in_phase, options
from throughline.endpoint.endpoint import Endpoint
from throughline.offsets.piece import Piece


def sent(endpoint, now=20):
    """What is sent, in short: start, octets, size."""
    return [(piece.start, len(piece.data), piece.size) for piece in endpoint.output(now)]


def writing(count, **changed):
    endpoint = in_phase("established", **changed)
    endpoint.write([k % 256 for k in range(count)])
    return endpoint


class ResetRowTest(unittest.TestCase):
    def test_a_reset_is_sent_once(self):
        endpoint = in_phase("established")
        endpoint.write([1, 2, 3])
        endpoint.output(0)
        endpoint.abort()
        found = changes(endpoint, lambda: endpoint.output(20))
        self.assertEqual(found, {"over": False, "returned": [Piece(4, reset=True)]})
        self.assertEqual(endpoint.output(20), [])

    def test_nothing_else_is_sent_behind_the_end(self):
        for cause in CAUSES:
            endpoint = ended(cause)
            for name in ("asked", "again", "probe", "cut"):
                setattr(endpoint, name, True)
            endpoint.ack_at = 0
            self.assertEqual(endpoint.output(20), [])
            self.assertEqual((endpoint.asked, endpoint.again, endpoint.probe, endpoint.ack_at), (True, True, True, 0))

    def test_a_reset_carries_nothing(self):
        endpoint = in_phase("established")
        endpoint.marked = True
        endpoint.cut = True
        endpoint.stamp = 5
        endpoint.arrive(answer(10, data=[1]), 1)
        endpoint.abort()
        endpoint.ack_at = 3
        endpoint.late = 4
        found = changes(endpoint, lambda: endpoint.output(20))
        self.assertEqual(found, {"over": False, "returned": [Piece(1, reset=True)]})

    def test_one_that_has_ended_is_reset_anew_by_a_piece(self):
        endpoint = ended("reset")
        endpoint.arrive(answer(1), 20)
        self.assertEqual(endpoint.output(20), [Piece(1, reset=True)])

    def test_no_wait_begins_behind_the_end(self):
        endpoint = writing(10)
        endpoint.abort()
        endpoint.output(20)
        self.assertIsNone(endpoint.alarm)


class AgainRowTest(unittest.TestCase):
    def lost(self):
        endpoint = writing(250)
        endpoint.output(0)
        endpoint.again = True
        return endpoint

    def test_the_first_piece(self):
        endpoint = self.lost()
        self.assertEqual([(piece.start, piece.data) for piece in endpoint.output(20)], [(1, list(range(100)))])
        self.assertFalse(endpoint.again)
        self.assertEqual((endpoint.sender.resend, endpoint.sender.nxt, endpoint.spent, endpoint.alarm),
                         (101, 251, 250, 40))

    def test_it_is_the_first_one(self):
        endpoint = self.lost()
        endpoint.write([1] * 200)
        endpoint.asked = True
        self.assertEqual(sent(endpoint), [(1, 100, 100), (251, 0, 0), (251, 100, 100), (351, 100, 100)])

    def test_the_syn(self):
        endpoint = in_phase("syn sent")
        endpoint.again = True
        self.assertEqual(endpoint.output(20), [Piece(0, syn=True, window=1000, stamp=(20, 0))])

    def test_nothing_in_flight(self):
        endpoint = in_phase("established")
        endpoint.again = True
        self.assertEqual(sent(endpoint), [])
        self.assertTrue(endpoint.again)

    def test_before_the_syn_was_sent(self):
        endpoint = Endpoint(options(), 0)
        endpoint.again = True
        self.assertEqual(sent(endpoint), [(0, 0, 1), (0, 0, 1)])

    def test_a_recovery_does_not_send_the_same_piece_twice(self):
        endpoint = self.lost()
        for _ in range(3):
            endpoint.arrive(answer(1), 10)
        self.assertEqual(endpoint.sender.recovery, 251)
        self.assertEqual(sent(endpoint), [(1, 100, 100)])


class AskedRowTest(unittest.TestCase):
    def test_an_empty_piece(self):
        endpoint = in_phase("established")
        endpoint.asked = True
        self.assertEqual(endpoint.output(20), [Piece(1, ack=1, window=1000, stamp=(20, 0))])
        self.assertFalse(endpoint.asked)

    def test_it_stands_at_nxt(self):
        endpoint = writing(10)
        endpoint.output(0)
        endpoint.asked = True
        self.assertEqual(sent(endpoint), [(11, 0, 0)])

    def test_before_new_octets(self):
        endpoint = writing(10)
        endpoint.asked = True
        self.assertEqual(sent(endpoint), [(1, 0, 0), (1, 10, 10)])

    def test_in_time_wait(self):
        endpoint = in_phase("time wait")
        endpoint.arrive(answer(1, fin=True, ack=2), 20)
        self.assertEqual(sent(endpoint), [(2, 0, 0)])


class NextPieceRowTest(unittest.TestCase):
    def test_the_syn(self):
        endpoint = Endpoint(options(), 3)
        self.assertEqual(endpoint.output(20), [Piece(0, syn=True, window=1000, stamp=(20, 0))])
        self.assertEqual((endpoint.alarm, endpoint.since, endpoint.spent_at, endpoint.spent), (60, 20, 20, 0))

    def test_the_syn_of_one_that_answers(self):
        endpoint = Endpoint.answering(options(), 3, Piece(0, syn=True, stamp=(9, 0)), mss=60, selective=True)
        self.assertEqual(endpoint.output(20), [Piece(0, syn=True, ack=1, window=1000, stamp=(20, 9))])

    def test_octets(self):
        endpoint = writing(250)
        found = endpoint.output(20)
        self.assertEqual([piece.data for piece in found],
                         [list(range(100)), list(range(100, 200)), list(range(200, 250))])
        self.assertEqual([piece.start for piece in found], [1, 101, 201])
        self.assertEqual((endpoint.flight, endpoint.spent, endpoint.spent_at), (250, 250, 20))
        self.assertEqual(endpoint.output(20), [])

    def test_the_end(self):
        endpoint = writing(100)
        endpoint.finish()
        self.assertEqual(endpoint.output(20), [Piece(1, data=list(range(100)), fin=True, ack=1, window=1000,
                                                     stamp=(20, 0))])
        self.assertEqual(endpoint.spent, 100)

    def test_the_mss_of_the_endpoint(self):
        endpoint = writing(100)
        endpoint.mss = 40
        self.assertEqual(sent(endpoint), [(1, 40, 40), (41, 40, 40), (81, 20, 20)])

    def test_the_window_of_the_control(self):
        endpoint = writing(800)
        endpoint.control.cwnd = 350
        self.assertEqual(sent(endpoint), [(1, 100, 100), (101, 100, 100), (201, 100, 100)])
        endpoint.control.cwnd = 401
        self.assertEqual(sent(endpoint), [(301, 100, 100)])

    def test_the_option_nagle(self):
        for nagle, expected in ((False, [(101, 50, 50)]), (True, [])):
            endpoint = writing(100, nagle=nagle)
            endpoint.output(0)
            endpoint.write([1] * 50)
            self.assertEqual(sent(endpoint), expected)
            endpoint.finish()
            self.assertEqual(sent(endpoint, 21), [(101, 50, 51)] if nagle else [(151, 0, 1)])

    def test_lost_octets(self):
        endpoint = writing(250)
        endpoint.output(0)
        endpoint.tick(40)
        endpoint.arrive(answer(1, ack=101), 45)
        self.assertEqual(sent(endpoint, 45), [(101, 100, 100)])
        endpoint.arrive(answer(1, ack=201), 46)
        self.assertEqual(sent(endpoint, 46), [(201, 50, 50)])
        # They are not sent for the first time.
        self.assertEqual((endpoint.spent_at, endpoint.spent), (0, 250))

    def test_a_wait_begins_if_nothing_was_in_flight(self):
        endpoint = writing(150)
        endpoint.alarm = 25
        endpoint.output(20)
        self.assertEqual((endpoint.alarm, endpoint.since), (60, 20))

    def test_the_wait_goes_on_if_something_was_in_flight(self):
        endpoint = writing(150)
        endpoint.output(0)
        endpoint.write([1] * 100)
        endpoint.output(20)
        self.assertEqual((endpoint.alarm, endpoint.since, endpoint.flight), (40, 0, 250))


class MostPiecesTest(unittest.TestCase):
    def test_64_at_once(self):
        endpoint = writing(700, mss=8)
        endpoint.control.cwnd = 10000
        endpoint.mss = 8
        endpoint.sender.edge = 10000
        self.assertEqual(len(endpoint.output(20)), 64)
        self.assertEqual(endpoint.flight, 512)
        self.assertEqual(len(endpoint.output(20)), 24)
        self.assertEqual(endpoint.output(20), [])

    def test_all_kinds_of_pieces_count(self):
        endpoint = writing(700, mss=8)
        endpoint.control.cwnd = 10000
        endpoint.mss = 8
        endpoint.asked = True
        self.assertEqual(len(endpoint.output(20)), 64)
        self.assertEqual(endpoint.flight, 504)

    def test_what_comes_behind_them_waits(self):
        endpoint = writing(512, mss=8)
        endpoint.control.cwnd = 10000
        endpoint.mss = 8
        endpoint.probe = True
        self.assertEqual(len(endpoint.output(20)), 64)
        self.assertTrue(endpoint.probe)
        self.assertEqual(sent(endpoint), [(0, 0, 0)])


class AllowanceTest(unittest.TestCase):
    def test_within_one_tick(self):
        endpoint = writing(900, pace=250)
        self.assertEqual(sent(endpoint), [(1, 100, 100), (101, 100, 100), (201, 50, 50)])
        self.assertEqual((endpoint.spent, endpoint.spent_at), (250, 20))
        self.assertEqual(sent(endpoint), [])

    def test_over_several_ticks(self):
        endpoint = writing(900, pace=250)
        endpoint.output(20)
        self.assertEqual(sent(endpoint, 21), [(251, 100, 100), (351, 100, 100), (451, 50, 50)])
        self.assertEqual((endpoint.spent, endpoint.spent_at), (250, 21))
        self.assertEqual(sent(endpoint, 25), [(501, 100, 100), (601, 100, 100), (701, 50, 50)])
        self.assertEqual(sent(endpoint, 25), [])
        self.assertEqual(sent(endpoint, 26), [(751, 100, 100), (851, 50, 50)])
        self.assertEqual(endpoint.spent, 150)

    def test_in_several_outputs_of_one_tick(self):
        endpoint = writing(120, pace=250)
        self.assertEqual(sent(endpoint), [(1, 100, 100), (101, 20, 20)])
        endpoint.write([1] * 300)
        self.assertEqual(sent(endpoint), [(121, 100, 100), (221, 30, 30)])
        self.assertEqual(endpoint.spent, 250)

    def test_more_was_spent_than_there_is(self):
        endpoint = writing(120, pace=250)
        endpoint.spent_at = 20
        endpoint.spent = 251
        self.assertEqual(sent(endpoint), [])
        self.assertEqual(sent(endpoint, 21), [(1, 100, 100), (101, 20, 20)])

    def test_the_syn_and_the_end_take_nothing_of_it(self):
        endpoint = Endpoint(options(pace=1), 5)
        endpoint.output(5)
        self.assertEqual((endpoint.spent, endpoint.spent_at), (0, 5))
        endpoint = writing(100, pace=100)
        endpoint.output(20)
        endpoint.finish()
        self.assertEqual(sent(endpoint), [(101, 0, 1)])
        self.assertEqual(endpoint.spent, 100)

    def test_spent_begins_anew_with_an_end(self):
        endpoint = writing(100)
        endpoint.output(20)
        endpoint.finish()
        endpoint.output(21)
        self.assertEqual((endpoint.spent, endpoint.spent_at), (0, 21))

    def test_octets_that_are_sent_again_do_not_count(self):
        endpoint = writing(250, pace=250)
        endpoint.output(20)
        endpoint.again = True
        self.assertEqual(sent(endpoint), [(1, 100, 100)])
        self.assertEqual(endpoint.spent, 250)


class ProbeRowTest(unittest.TestCase):
    def test_an_empty_piece_below_una(self):
        endpoint = writing(100)
        endpoint.output(0)
        endpoint.arrive(answer(1, ack=101), 5)
        endpoint.probe = True
        self.assertEqual(endpoint.output(20), [Piece(100, ack=1, window=1000, stamp=(20, 0))])
        self.assertFalse(endpoint.probe)

    def test_behind_new_octets(self):
        endpoint = writing(100)
        endpoint.probe = True
        self.assertEqual(sent(endpoint), [(1, 100, 100), (0, 0, 0)])

    def test_before_an_acknowledgement(self):
        endpoint = in_phase("established")
        endpoint.probe = True
        endpoint.ack_at = 0
        self.assertEqual(sent(endpoint), [(0, 0, 0)])
        self.assertIsNone(endpoint.ack_at)

    def test_a_closed_window(self):
        endpoint = in_phase("established")
        endpoint.sender.edge = 1
        endpoint.write([1] * 10)
        self.assertEqual(sent(endpoint, 0), [])
        endpoint.tick(40)
        self.assertEqual(sent(endpoint, 40), [(0, 0, 0)])
        endpoint.arrive(answer(1, window=10), 45)
        self.assertEqual(sent(endpoint, 45), [(1, 10, 10)])


class AcknowledgementRowTest(unittest.TestCase):
    def test_one_that_is_due(self):
        for now in (20, 21, 90):
            endpoint = in_phase("established")
            endpoint.ack_at = 20
            endpoint.late = 3
            self.assertEqual(endpoint.output(now), [Piece(1, ack=1, window=1000, stamp=(now, 0))])
            self.assertEqual((endpoint.ack_at, endpoint.late), (None, 0))

    def test_one_that_is_not_due(self):
        endpoint = in_phase("established")
        endpoint.ack_at = 21
        endpoint.late = 3
        self.assertEqual(endpoint.output(20), [])
        self.assertEqual((endpoint.ack_at, endpoint.late), (21, 3))

    def test_it_stands_at_nxt(self):
        endpoint = writing(10)
        endpoint.output(0)
        endpoint.ack_at = 0
        self.assertEqual(sent(endpoint), [(11, 0, 0)])

    def test_octets_acknowledge_too(self):
        endpoint = writing(10)
        endpoint.arrive(answer(1, data=[1, 2]), 1)
        self.assertEqual(endpoint.output(20), [Piece(1, data=list(range(10)), ack=3, window=998, stamp=(20, 0))])
        self.assertEqual((endpoint.ack_at, endpoint.late), (None, 0))

    def test_a_delay(self):
        endpoint = in_phase("established")
        endpoint.arrive(answer(1, data=[1]), 10)
        self.assertEqual([sent(endpoint, now) for now in (10, 13, 14, 15)], [[], [], [(1, 0, 0)], []])

    def test_every_second_piece_at_once(self):
        endpoint = in_phase("established")
        found = []
        for k in range(6):
            endpoint.arrive(answer(1 + k, data=[1]), 10)
            found.append(len(sent(endpoint, 10)))
        self.assertEqual(found, [0, 1, 0, 1, 0, 1])


class OrderTest(unittest.TestCase):
    def test_all_at_once(self):
        endpoint = writing(250)
        endpoint.output(0)
        endpoint.write([1] * 30)
        endpoint.again = True
        endpoint.asked = True
        endpoint.probe = True
        endpoint.ack_at = 0
        self.assertEqual(sent(endpoint), [(1, 100, 100), (251, 0, 0), (251, 30, 30), (0, 0, 0)])

    def test_each_row_answers_first(self):
        # Whichever piece is sent first, it is the acknowledgement.
        for name in ("again", "asked", "probe"):
            endpoint = writing(50)
            endpoint.output(0)
            setattr(endpoint, name, True)
            endpoint.ack_at = 0
            endpoint.late = 1
            self.assertEqual(len(endpoint.output(20)), 1)
            self.assertEqual((endpoint.ack_at, endpoint.late), (None, 0))


class PartsTest(unittest.TestCase):
    def test_the_acknowledgement(self):
        for phase in PHASES[:-1]:
            endpoint = in_phase(phase)
            endpoint.asked = True
            piece, = endpoint.output(20)
            self.assertEqual(piece.ack, None if phase == "syn sent" else endpoint.receiver.nxt)

    def test_the_window(self):
        endpoint = in_phase("established")
        endpoint.arrive(answer(1, data=[1] * 100), 1)
        endpoint.arrive(answer(101, data=[1] * 100), 1)
        self.assertEqual([piece.window for piece in endpoint.output(1)], [800])
        endpoint.read(150)
        self.assertEqual([piece.window for piece in endpoint.output(1)], [950])
        self.assertEqual(endpoint.receiver.edge, 1151)

    def test_the_window_is_advertised_for_the_mss_of_the_endpoint(self):
        for mss, window in ((50, 850), (51, 800)):
            endpoint = in_phase("established")
            endpoint.arrive(answer(1, data=[1] * 100), 1)
            endpoint.arrive(answer(101, data=[1] * 100), 1)
            endpoint.output(1)
            endpoint.read(50)
            endpoint.mss = mss
            endpoint.asked = True
            self.assertEqual([piece.window for piece in endpoint.output(1)], [window])

    def test_the_window_in_syn_sent(self):
        endpoint = in_phase("syn sent", room=70000)
        endpoint.again = True
        self.assertEqual([piece.window for piece in endpoint.output(1)], [70000])

    def test_ranges(self):
        for selective, ranges in ((True, [(5, 7)]), (False, [])):
            endpoint = in_phase("established")
            endpoint.selective = selective
            endpoint.arrive(answer(5, data=[1, 1]), 1)
            self.assertEqual([piece.ranges for piece in endpoint.output(1)], [ranges])

    def test_marked(self):
        endpoint = writing(150)
        endpoint.marked = True
        endpoint.asked = True
        self.assertEqual([piece.marked for piece in endpoint.output(1)], [True, True, True])
        self.assertTrue(endpoint.marked)
        endpoint.marked = False
        endpoint.asked = True
        self.assertEqual([piece.marked for piece in endpoint.output(1)], [False])

    def test_cut(self):
        endpoint = writing(150)
        endpoint.cut = True
        endpoint.asked = True
        self.assertEqual([piece.cut for piece in endpoint.output(1)], [False, True, False])
        self.assertFalse(endpoint.cut)

    def test_cut_waits_for_octets(self):
        endpoint = in_phase("established")
        endpoint.cut = True
        endpoint.finish()
        self.assertEqual([(piece.fin, piece.cut) for piece in endpoint.output(1)], [(True, False)])
        self.assertTrue(endpoint.cut)

    def test_cut_with_octets_that_are_sent_again(self):
        endpoint = writing(150)
        endpoint.output(0)
        endpoint.again = True
        endpoint.cut = True
        self.assertEqual([piece.cut for piece in endpoint.output(1)], [True])
        self.assertFalse(endpoint.cut)

    def test_the_stamp(self):
        endpoint = in_phase("established")
        endpoint.stamp = 77
        for now, first in ((20, 20), (4294967295, 4294967295), (4294967296, 0), (4294967299, 3)):
            endpoint.asked = True
            self.assertEqual([piece.stamp for piece in endpoint.output(now)], [(first, 77)])

    def test_other_parts_are_those_of_the_stream(self):
        endpoint = writing(5)
        endpoint.finish()
        piece, = endpoint.output(1)
        self.assertEqual((piece.start, piece.data, piece.syn, piece.fin, piece.reset), (1, [0, 1, 2, 3, 4], False, True,
                                                                                        False))


class WaitTest(unittest.TestCase):
    def test_a_wait_begins_behind_an_output_without_pieces(self):
        endpoint = in_phase("established")
        endpoint.sender.edge = 1
        endpoint.write([1])
        self.assertEqual(changes(endpoint, lambda: endpoint.output(20)),
                         {"returned": [], "alarm": 60, "since": 20})

    def test_a_wait_that_goes_on(self):
        endpoint = writing(10)
        endpoint.output(0)
        self.assertEqual(changes(endpoint, lambda: endpoint.output(20)), {"returned": []})

    def test_a_wait_begins_behind_other_pieces(self):
        endpoint = writing(10)
        endpoint.output(0)
        endpoint.alarm = None
        endpoint.asked = True
        endpoint.output(20)
        self.assertEqual((endpoint.alarm, endpoint.since), (60, 20))

    def test_no_wait_begins_if_none_is_needed(self):
        for phase in ("established", "fin wait 2", "close wait", "time wait"):
            endpoint = in_phase(phase)
            endpoint.asked = True
            endpoint.output(20)
            self.assertIsNone(endpoint.alarm)


if __name__ == "__main__":
    unittest.main()
