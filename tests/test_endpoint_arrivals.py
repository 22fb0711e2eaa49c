"""What arrives at an endpoint (points 69 to 72)."""

import unittest

from tests.endpoints import CAUSES, PHASES, answer, changes, ended, in_phase, options, state
from throughline.endpoint.endpoint import Endpoint
from throughline.offsets.piece import Piece

OPEN = ("established", "fin wait 1", "fin wait 2", "close wait", "closing", "last ack", "time wait")


def arrival(endpoint, piece, now=20, **more):
    return changes(endpoint, lambda: endpoint.arrive(piece, now, **more))


def sending(count=300, **changed):
    """Established, with so many octets in flight that were sent at tick 0."""
    endpoint = in_phase("established", **changed)
    endpoint.write([1] * count)
    endpoint.output(0)
    return endpoint


class EndedTest(unittest.TestCase):
    def test_a_piece(self):
        for cause in CAUSES:
            for piece, agreed in ((answer(1), None), (answer(1, data=[1], fin=True), None),
                                  (Piece(0, syn=True), (8, True)), (Piece(0), None)):
                expected = {} if cause == "done" else {"over": True}
                self.assertEqual(arrival(ended(cause), piece, agreed=agreed), expected)

    def test_a_reset(self):
        for cause in CAUSES:
            self.assertEqual(arrival(ended(cause), Piece(1, reset=True)), {})
            self.assertEqual(arrival(ended(cause), Piece(0, reset=True, syn=True), agreed=(8, True)), {})

    def test_over_stays_true(self):
        endpoint = ended("reset")
        endpoint.over = True
        self.assertEqual(arrival(endpoint, answer(1)), {})
        self.assertEqual(arrival(endpoint, Piece(1, reset=True)), {})


class ResetTest(unittest.TestCase):
    def test_in_each_phase(self):
        expected = {"syn sent": "refused", "time wait": "done"}
        for phase in PHASES[:-1]:
            self.assertEqual(arrival(in_phase(phase), Piece(1, reset=True)),
                             {"phase": "ended", "cause": expected.get(phase, "reset")})

    def test_nothing_of_a_reset_is_taken(self):
        for phase in PHASES[:-1]:
            piece = Piece(1, reset=True, data=[1, 2], syn=True, fin=True, ack=1, window=5000, marked=True, cut=True,
                          stamp=(3, 4), ranges=[(1, 2)])
            endpoint = in_phase(phase)
            endpoint.marked = True
            found = arrival(endpoint, piece, marked=True, agreed=(8, True))
            self.assertEqual(list(found), ["phase", "cause"])

    def test_behind_both_ends(self):
        endpoint = in_phase("closing")
        self.assertTrue(endpoint.receiver.end_taken)
        self.assertFalse(endpoint.sender.all_done)
        endpoint.arrive(Piece(2, reset=True), 1)
        self.assertEqual(endpoint.cause, "reset")
        endpoint = in_phase("fin wait 2")
        self.assertTrue(endpoint.sender.all_done)
        endpoint.arrive(Piece(2, reset=True), 1)
        self.assertEqual(endpoint.cause, "reset")

    def test_before_a_syn_was_sent(self):
        self.assertEqual(arrival(Endpoint(options(), 0), Piece(0, reset=True)), {"phase": "ended", "cause": "refused"})


class SynSentTest(unittest.TestCase):
    def test_a_piece_without_a_syn(self):
        for piece in (answer(1), answer(1, data=[1]), Piece(0), answer(0, fin=True, marked=True, stamp=(1, 2))):
            self.assertEqual(arrival(in_phase("syn sent"), piece, marked=True), {})

    def test_a_syn_with_an_acknowledgement(self):
        found = arrival(in_phase("syn sent"), Piece(0, syn=True, ack=1, window=700), agreed=(64, True))
        self.assertEqual(found, {"phase": "established", "mss": 64, "selective": True, "alarm": None, "since": 20,
                                 "ack_at": 0, "late": 1, "sender una": 1, "sender edge": 701, "sender resend": 1,
                                 "receiver nxt": 1})

    def test_a_syn_that_acknowledges_nothing_new(self):
        for piece in (Piece(0, syn=True), Piece(0, syn=True, ack=0, window=700)):
            endpoint = in_phase("syn sent")
            found = arrival(endpoint, piece, agreed=(64, False))
            expected = {"phase": "syn received", "mss": 64, "since": 20, "ack_at": 0, "late": 1, "again": True,
                        "receiver nxt": 1}
            if piece.ack is not None:
                expected["sender edge"] = 700
            self.assertEqual(found, expected)
            self.assertEqual(endpoint.output(20),
                             [Piece(0, syn=True, ack=1, window=1000, stamp=(20, 0))])

    def test_everything_of_the_piece_is_taken(self):
        endpoint = in_phase("syn sent")
        piece = Piece(0, syn=True, data=[5, 6], ack=1, window=700, stamp=(9, 0), marked=True, cut=False)
        found = arrival(endpoint, piece, agreed=(64, True), marked=True)
        self.assertEqual((endpoint.read(9), found["stamp"], found["marked"], found["cut"]), ([5, 6], 9, True, True))
        # The mark is taken for the agreed mss.
        self.assertEqual((found["control cwnd"], found["control thresh"]), (128, 128))

    def test_a_syn_with_the_end(self):
        endpoint = in_phase("syn sent")
        endpoint.arrive(Piece(0, syn=True, fin=True, ack=1, window=700), 5, agreed=(64, True))
        self.assertEqual(endpoint.phase, "close wait")

    def test_a_syn_before_its_own_was_sent(self):
        endpoint = Endpoint(options(), 0)
        endpoint.arrive(Piece(0, syn=True), 5, agreed=(64, True))
        self.assertEqual((endpoint.phase, endpoint.again, endpoint.alarm), ("syn received", True, 45))

    def test_the_acknowledgement_of_a_syn_is_measured(self):
        endpoint = in_phase("syn sent")
        endpoint.arrive(Piece(0, syn=True, ack=1, window=700, stamp=(9, 3)), 20, agreed=(64, True))
        self.assertEqual((endpoint.trip.measured, endpoint.trip.srtt, endpoint.stamp), (True, 136, 9))


class SinceTest(unittest.TestCase):
    def test_each_piece_counts(self):
        for phase in OPEN + ("syn received",):
            for piece in (answer(1), Piece(50), Piece(1)):
                endpoint = in_phase(phase)
                endpoint.arrive(piece, 33)
                self.assertEqual(endpoint.since, 33)


class AcknowledgementTest(unittest.TestCase):
    def test_una_moves(self):
        endpoint = sending()
        endpoint.probe = True
        found = arrival(endpoint, answer(1, ack=101, window=800))
        # The first window of 1000 is not used by 300 octets, so the control stays.
        self.assertEqual(found, {"since": 20, "alarm": 60, "probe": False, "sender una": 101, "sender resend": 101,
                                 "sender free": 800})

    def test_the_edge_is_the_acknowledgement_plus_the_window(self):
        endpoint = sending()
        endpoint.arrive(answer(1, ack=101, window=5000), 20)
        self.assertEqual(endpoint.sender.edge, 5101)
        endpoint.arrive(answer(1, ack=90, window=5012), 20)
        self.assertEqual(endpoint.sender.edge, 5102)

    def test_a_piece_without_an_acknowledgement(self):
        endpoint = sending()
        endpoint.probe = True
        endpoint.again = True
        self.assertEqual(arrival(endpoint, Piece(1, window=5000, ranges=[(101, 201)], stamp=(0, 3))), {"since": 20})
        # Also where nothing is in flight and nothing is unsent.
        endpoint = in_phase("established")
        endpoint.alarm = 70
        endpoint.probe = True
        self.assertEqual(arrival(endpoint, Piece(1, window=5000)), {"since": 20})

    def test_the_control_takes_the_acknowledgement(self):
        endpoint = sending(1000)
        found = arrival(endpoint, answer(1, ack=81))
        self.assertEqual(found["control cwnd"], 1080)
        # 400 octets in flight behind it, 500 acknowledged, and an mss of 100 make 1000: not more than the window.
        endpoint = sending(900)
        self.assertNotIn("control cwnd", arrival(endpoint, answer(1, ack=501)))
        endpoint = sending(901)
        self.assertEqual(arrival(endpoint, answer(1, ack=502))["control cwnd"], 1100)

    def test_the_mss_of_the_endpoint_is_passed_to_the_control(self):
        endpoint = sending(1000)
        endpoint.mss = 64
        self.assertEqual(arrival(endpoint, answer(1, ack=101))["control cwnd"], 1064)

    def test_the_tick_is_passed_to_the_control(self):
        endpoint = sending(1000, control="cubic")
        endpoint.control.thresh = 1000
        self.assertEqual(arrival(endpoint, answer(1, ack=101), 44)["control period"][0], 44)

    def test_the_control_does_not_grow_in_a_recovery(self):
        endpoint = sending(1000)
        endpoint.sender.recovery = 900
        self.assertNotIn("control cwnd", arrival(endpoint, answer(1, ack=101)))
        # The recovery that ends with this acknowledgement does not go on after it.
        endpoint = sending(1000)
        endpoint.sender.recovery = 101
        self.assertEqual(arrival(endpoint, answer(1, ack=101))["control cwnd"], 1100)

    def test_a_measured_time(self):
        endpoint = sending()
        found = arrival(endpoint, answer(1, ack=101, stamp=(5, 8)))
        self.assertEqual((found["trip srtt"], found["trip rto"], found["alarm"]), (96, 36, 56))

    def test_a_measured_time_over_the_end_of_the_circle(self):
        endpoint = sending()
        found = arrival(endpoint, answer(1, ack=101, stamp=(5, 4294967290)), 4294967296 + 3)
        self.assertEqual(found["trip srtt"], 72)

    def test_no_time_is_measured(self):
        for piece in (answer(1, ack=101), answer(1, ack=101, stamp=(5, 0)), answer(1, ack=1, stamp=(5, 8)),
                      answer(1, ack=302, stamp=(5, 8)), Piece(1, stamp=(5, 8))):
            endpoint = sending()
            self.assertNotIn("trip srtt", arrival(endpoint, piece))
            self.assertFalse(endpoint.trip.measured)

    def test_ranges_count_only_if_selective(self):
        endpoint = sending()
        endpoint.arrive(answer(1, ranges=[(101, 201)]), 20)
        self.assertEqual(endpoint.sender.sacked, [(101, 201)])
        endpoint = sending()
        endpoint.selective = False
        endpoint.arrive(answer(1, ranges=[(101, 201)]), 20)
        self.assertEqual(endpoint.sender.sacked, [])

    def test_repeated_acknowledgements_are_empty_pieces(self):
        endpoint = sending()
        for piece, repeated in ((answer(1), 1), (answer(1, data=[1]), 1), (answer(2, fin=True), 1), (answer(2), 2)):
            endpoint.arrive(piece, 20)
            self.assertEqual(endpoint.sender.repeated, repeated)

    def test_a_loss_by_repeated_acknowledgements(self):
        endpoint = sending()
        for _ in range(2):
            self.assertNotIn("again", arrival(endpoint, answer(1)))
        found = arrival(endpoint, answer(1))
        self.assertEqual((found["again"], found["control cwnd"], found["control prior"]), (True, 200, 1000))
        self.assertEqual(endpoint.sender.recovery, 301)
        self.assertNotIn("alarm", found)

    def test_a_loss_by_ranges(self):
        endpoint = sending(400)
        found = arrival(endpoint, answer(1, ranges=[(101, 302)]))
        self.assertEqual((found["again"], found["control cwnd"]), (True, 200))
        # The mss of the endpoint tells how many offsets are a loss.
        endpoint = sending(400)
        self.assertNotIn("again", arrival(endpoint, answer(1, ranges=[(101, 301)])))
        endpoint = sending(400)
        endpoint.mss = 99
        self.assertTrue(arrival(endpoint, answer(1, ranges=[(101, 301)]))["again"])

    def test_a_loss_takes_the_flight_behind_the_acknowledgement(self):
        endpoint = sending(1000)
        found = arrival(endpoint, answer(1, ack=201, ranges=[(301, 502)]))
        self.assertEqual((found["again"], found["control cwnd"], found["sender una"]), (True, 400, 201))
        # The control has taken no acknowledgement, because the recovery goes on behind it.
        self.assertEqual(found["control prior"], 1000)

    def test_again_becomes_false_as_una_moves(self):
        endpoint = sending()
        endpoint.again = True
        self.assertNotIn("again", arrival(endpoint, answer(1)))
        self.assertIs(arrival(endpoint, answer(1, ack=2))["again"], False)

    def test_again_stays_beyond_nxt(self):
        endpoint = sending()
        endpoint.again = True
        endpoint.probe = True
        self.assertEqual(arrival(endpoint, answer(1, ack=302)), {"since": 20})

    def test_the_alarm_stops_if_nothing_is_waited_for(self):
        for ack in (0, 1, 2, 500):
            endpoint = in_phase("established")
            endpoint.alarm = 70
            endpoint.probe = True
            self.assertEqual(arrival(endpoint, answer(1, ack=ack, window=0)),
                             {"since": 20, "alarm": None, "probe": False})

    def test_the_alarm_goes_on_if_something_is_unsent(self):
        endpoint = in_phase("established")
        endpoint.write([1])
        endpoint.alarm = 70
        endpoint.probe = True
        self.assertEqual(arrival(endpoint, answer(1, window=0)), {"since": 20})

    def test_the_alarm_goes_on_if_something_is_in_flight(self):
        endpoint = sending()
        endpoint.probe = True
        self.assertEqual(arrival(endpoint, answer(1, data=[], window=2000))["sender edge"], 2001)
        self.assertEqual((endpoint.alarm, endpoint.probe), (40, True))

    def test_the_alarm_begins_anew_if_more_is_in_flight(self):
        endpoint = sending()
        self.assertEqual(arrival(endpoint, answer(1, ack=300), 33)["alarm"], 73)
        self.assertIsNone(arrival(endpoint, answer(1, ack=301), 34)["alarm"])


class MarkTest(unittest.TestCase):
    def test_a_reported_mark_counts(self):
        endpoint = sending(900)
        found = arrival(endpoint, answer(1, marked=True))
        self.assertEqual((found["cut"], found["control cwnd"], found["control calm"]), (True, 450, 21))

    def test_the_flight_is_that_behind_the_acknowledgement(self):
        endpoint = sending(900)
        found = arrival(endpoint, answer(1, ack=101, marked=True))
        self.assertEqual(found["control cwnd"], 400)

    def test_the_round_is_that_of_the_round_trip(self):
        endpoint = sending(900)
        endpoint.trip.sample(30)
        self.assertEqual(arrival(endpoint, answer(1, marked=True))["control calm"], 50)

    def test_a_mark_that_does_not_count(self):
        endpoint = sending(900)
        endpoint.control.calm = 21
        found = arrival(endpoint, answer(1, marked=True))
        self.assertEqual(found, {"since": 20, "sender repeated": 1})
        endpoint.cut = True
        self.assertNotIn("cut", arrival(endpoint, answer(1, marked=True)))

    def test_a_piece_that_is_not_marked(self):
        endpoint = sending(900)
        self.assertEqual(arrival(endpoint, answer(1), marked=True), {"since": 20, "marked": True, "sender repeated": 1})

    def test_the_mark_of_the_packet(self):
        for was in (False, True):
            for packet, cut, expected in ((True, False, True), (True, True, True), (False, True, False),
                                          (False, False, was)):
                endpoint = in_phase("established")
                endpoint.marked = was
                endpoint.arrive(answer(1, cut=cut), 20, marked=packet)
                self.assertIs(endpoint.marked, expected)

    def test_a_mark_in_a_piece_without_an_acknowledgement(self):
        endpoint = sending(900)
        self.assertEqual(arrival(endpoint, Piece(1, marked=True))["control cwnd"], 450)


class StreamTest(unittest.TestCase):
    def test_the_stamp_of_a_piece_at_nxt_or_before(self):
        for start in (0, 1, 2):
            endpoint = in_phase("established")
            endpoint.arrive(answer(1, data=[9]), 1)
            endpoint.arrive(answer(start, data=[9, 9, 9], stamp=(77, 0)), 2)
            self.assertEqual(endpoint.stamp, 77)

    def test_the_stamp_of_a_piece_beyond_nxt(self):
        endpoint = in_phase("established")
        endpoint.arrive(answer(2, data=[9], stamp=(77, 0)), 2)
        endpoint.arrive(answer(2, stamp=(77, 0)), 2)
        self.assertEqual(endpoint.stamp, 0)

    def test_nxt_is_that_before_the_piece(self):
        endpoint = in_phase("established")
        endpoint.arrive(answer(5, data=[9]), 2)
        endpoint.arrive(answer(1, data=[9] * 4, stamp=(78, 0)), 2)
        self.assertEqual((endpoint.receiver.nxt, endpoint.stamp), (6, 78))

    def test_a_piece_without_a_stamp(self):
        endpoint = in_phase("established")
        endpoint.stamp = 5
        endpoint.arrive(answer(1, data=[9]), 2)
        self.assertEqual(endpoint.stamp, 5)

    def test_an_empty_piece(self):
        for start, asked in ((0, True), (1, False), (2, False), (9, False)):
            endpoint = in_phase("established")
            found = arrival(endpoint, answer(start))
            self.assertEqual(found, {"since": 20, "asked": True} if asked else {"since": 20})

    def test_an_empty_piece_leaves_asked(self):
        endpoint = in_phase("established")
        endpoint.asked = True
        self.assertEqual(arrival(endpoint, answer(1)), {"since": 20})

    def test_the_first_piece_in_order(self):
        endpoint = in_phase("established")
        found = arrival(endpoint, answer(1, data=[9, 9]))
        self.assertEqual((found["ack_at"], found["late"]), (24, 1))
        self.assertNotIn("asked", found)

    def test_the_second_piece_in_order(self):
        endpoint = in_phase("established")
        endpoint.arrive(answer(1, data=[9, 9]), 20)
        found = arrival(endpoint, answer(3, data=[9]), 21)
        self.assertEqual((found["ack_at"], found["late"]), (0, 2))
        endpoint.arrive(answer(4, data=[9]), 21)
        self.assertEqual((endpoint.ack_at, endpoint.late), (0, 3))

    def test_an_acknowledgement_that_is_due_earlier_stays(self):
        for was, expected in ((None, 24), (23, 23), (24, 24), (25, 24), (0, 0)):
            endpoint = in_phase("established")
            endpoint.ack_at = was
            endpoint.arrive(answer(1, data=[9, 9]), 20)
            self.assertEqual((endpoint.ack_at, endpoint.late), (expected, 1))

    def test_no_delay(self):
        endpoint = in_phase("established", ack_delay=0)
        endpoint.arrive(answer(1, data=[9, 9]), 20)
        self.assertEqual(endpoint.ack_at, 20)

    def test_a_piece_with_the_end(self):
        endpoint = in_phase("established")
        found = arrival(endpoint, answer(1, data=[9], fin=True))
        self.assertEqual((found["ack_at"], found["late"], found["phase"]), (0, 1, "close wait"))
        endpoint = in_phase("established")
        self.assertEqual(arrival(endpoint, answer(1, fin=True))["ack_at"], 0)

    def test_a_piece_with_the_syn(self):
        endpoint = in_phase("established")
        endpoint.arrive(answer(0, syn=True, data=[9]), 20, agreed=(100, True))
        self.assertEqual((endpoint.ack_at, endpoint.late, endpoint.asked), (0, 1, False))

    def test_a_piece_beyond_nxt(self):
        endpoint = in_phase("established")
        found = arrival(endpoint, answer(2, data=[9]))
        self.assertEqual((found["asked"], found["receiver holds"]), (True, 1))
        self.assertNotIn("ack_at", found)
        self.assertNotIn("late", found)

    def test_a_piece_that_arrived_before(self):
        endpoint = in_phase("established")
        endpoint.arrive(answer(1, data=[9, 9]), 20)
        endpoint.output(30)
        self.assertEqual(arrival(endpoint, answer(1, data=[9, 9]), 31), {"since": 31, "asked": True})

    def test_a_syn_that_arrived_before(self):
        endpoint = in_phase("established")
        found = arrival(endpoint, Piece(0, syn=True, ack=1, window=1000), agreed=(8, False))
        self.assertEqual(found, {"since": 20, "asked": True})

    def test_a_piece_that_leaves_a_gap(self):
        endpoint = in_phase("established")
        endpoint.arrive(answer(9, data=[9]), 20)
        endpoint.output(20)
        found = arrival(endpoint, answer(1, data=[9]), 21)
        self.assertEqual((found["asked"], found["receiver nxt"], endpoint.ack_at), (True, 2, None))

    def test_a_piece_that_fills_the_last_gap(self):
        endpoint = in_phase("established")
        endpoint.arrive(answer(3, data=[9]), 20)
        endpoint.output(20)
        found = arrival(endpoint, answer(1, data=[9, 9]), 21)
        self.assertEqual((found["ack_at"], found["receiver nxt"], endpoint.asked), (25, 4, False))

    def test_agreed_values_count_only_in_syn_sent(self):
        for phase in OPEN + ("syn received",):
            endpoint = in_phase(phase)
            endpoint.arrive(Piece(0, syn=True, ack=1, window=1000), 20, agreed=(8, False))
            self.assertEqual((endpoint.mss, endpoint.selective), (100, True))


class PhaseTest(unittest.TestCase):
    def test_the_next_phase(self):
        rows = [
            ("syn received", answer(1), "established"), ("syn received", Piece(1), "syn received"),
            ("syn received", answer(1, fin=True), "close wait"),
            ("established", answer(1, fin=True), "close wait"), ("established", answer(1, data=[1]), "established"),
            ("fin wait 1", answer(1), "fin wait 1"), ("fin wait 1", answer(1, ack=2), "fin wait 2"),
            ("fin wait 1", answer(1, fin=True), "closing"), ("fin wait 1", answer(1, fin=True, ack=2), "time wait"),
            ("fin wait 2", answer(1, ack=2), "fin wait 2"), ("fin wait 2", answer(1, fin=True, ack=2), "time wait"),
            ("close wait", answer(2), "close wait"), ("closing", answer(2, ack=2), "time wait"),
            ("closing", answer(2), "closing"), ("last ack", answer(2), "last ack"),
            ("time wait", answer(2, ack=2), "time wait"),
        ]
        for phase, piece, expected in rows:
            endpoint = in_phase(phase)
            endpoint.arrive(piece, 20)
            self.assertEqual((endpoint.phase, endpoint.cause), (expected, None), phase)

    def test_the_end(self):
        endpoint = in_phase("last ack")
        endpoint.arrive(answer(2, ack=2), 20)
        self.assertEqual((endpoint.phase, endpoint.cause, endpoint.over), ("ended", "done", False))

    def test_rest_begins_with_the_phase_time_wait(self):
        # 20, a life of 50, and 3 waits of 80 ticks.
        for phase, piece in (("fin wait 1", answer(1, fin=True, ack=2)), ("fin wait 2", answer(1, fin=True, ack=2)),
                             ("closing", answer(2, ack=2))):
            endpoint = in_phase(phase)
            endpoint.arrive(piece, 20)
            self.assertEqual((endpoint.phase, endpoint.rest), ("time wait", 310))

    def test_rest_begins_anew_with_an_end(self):
        endpoint = in_phase("time wait")
        self.assertEqual(endpoint.rest, 290)
        endpoint.arrive(answer(2, ack=2), 20)
        endpoint.arrive(answer(1, data=[3], ack=2), 20)
        self.assertEqual(endpoint.rest, 290)
        endpoint.arrive(answer(1, ack=2, fin=True), 30)
        self.assertEqual(endpoint.rest, 320)

    def test_an_end_in_another_phase(self):
        for phase in ("established", "close wait", "closing", "last ack"):
            endpoint = in_phase(phase)
            endpoint.arrive(answer(1, fin=True), 20)
            self.assertEqual(endpoint.rest, 0)


class WaitTest(unittest.TestCase):
    def test_a_wait_begins_if_an_answer_is_needed(self):
        endpoint = sending()
        endpoint.alarm = None
        endpoint.since = 3
        self.assertEqual(arrival(endpoint, Piece(1)), {"since": 20, "alarm": 60})

    def test_no_wait_begins_if_none_is_needed(self):
        for phase in ("established", "fin wait 2", "close wait", "time wait"):
            endpoint = in_phase(phase)
            self.assertIsNone(endpoint.alarm)
            endpoint.arrive(Piece(1), 20)
            self.assertIsNone(endpoint.alarm)

    def test_a_wait_that_goes_on(self):
        endpoint = sending()
        self.assertEqual(endpoint.alarm, 40)
        endpoint.arrive(Piece(1), 20)
        self.assertEqual(endpoint.alarm, 40)

    def test_the_timeout_is_that_behind_the_measured_time(self):
        endpoint = sending()
        endpoint.arrive(answer(1, ack=101, stamp=(5, 8)), 20)
        self.assertEqual(endpoint.alarm, 20 + endpoint.timeout)
        self.assertEqual(endpoint.timeout, 36)


class ArgumentsTest(unittest.TestCase):
    def test_a_piece_is_not_changed_and_not_kept(self):
        endpoint = in_phase("established")
        piece = answer(3, data=[1, 2, 3], ranges=[(1, 2)], stamp=(1, 2))
        endpoint.arrive(piece, 20)
        self.assertEqual(piece, answer(3, data=[1, 2, 3], ranges=[(1, 2)], stamp=(1, 2)))
        before = state(endpoint)
        piece.data.append(4)
        endpoint.arrive(answer(1, data=[8, 8]), 20)
        self.assertEqual((endpoint.read(9), before["receiver holds"]), ([8, 8, 1, 2, 3], 3))


if __name__ == "__main__":
    unittest.main()
