"""First values, properties and calls of an endpoint (points 63 to 68)."""

import unittest

from tests.endpoints import CAUSES, FIELDS, PHASES, answer, changes, ended, in_phase, options, state
from throughline.endpoint.endpoint import Endpoint
from throughline.offsets.piece import Piece
from throughline.pace.cubic import Cubic
from throughline.pace.reno import Reno
from throughline.pace.round_trip import RoundTrip
from throughline.receiving.receiver import Receiver
from throughline.sending.sender import Sender

FIRST = {"phase": "syn sent", "cause": None, "mss": 100, "selective": False, "alarm": None, "since": 7, "ack_at": None,
         "late": 0, "asked": False, "again": False, "probe": False, "over": False, "rest": 0, "spent_at": 7,
         "spent": 0, "stamp": 0, "marked": False, "cut": False}


def fields(endpoint):
    return {name: getattr(endpoint, name) for name in FIELDS}


class FirstValuesTest(unittest.TestCase):
    def test_one_that_opens(self):
        endpoint = Endpoint(options(), 7)
        self.assertEqual(fields(endpoint), FIRST)
        self.assertEqual(endpoint.options, options())

    def test_one_that_answers_a_piece_with_a_stamp(self):
        piece = Piece(0, syn=True, stamp=(55, 66))
        endpoint = Endpoint.answering(options(), 7, piece, mss=60, selective=True)
        self.assertEqual(fields(endpoint), {**FIRST, "phase": "syn received", "mss": 60, "selective": True,
                                            "stamp": 55})
        endpoint = Endpoint.answering(options(), 7, piece, mss=100, selective=False)
        self.assertEqual(fields(endpoint), {**FIRST, "phase": "syn received", "stamp": 55})

    def test_one_that_answers_a_piece_without_a_stamp(self):
        endpoint = Endpoint.answering(options(), 7, Piece(0, syn=True), mss=60, selective=True)
        self.assertEqual(fields(endpoint), {**FIRST, "phase": "syn received", "mss": 60, "selective": True})
        self.assertIsInstance(endpoint, Endpoint)

    def test_its_parts(self):
        for endpoint in (Endpoint(options(), 7),
                         Endpoint.answering(options(), 7, Piece(0, syn=True), mss=60, selective=True)):
            for part, kind in ((endpoint.sender, Sender), (endpoint.receiver, Receiver), (endpoint.trip, RoundTrip),
                               (endpoint.control, Reno)):
                self.assertIsInstance(part, kind)
            self.assertEqual((endpoint.sender.room, endpoint.receiver.room), (1000, 1000))
            self.assertEqual((endpoint.trip.least, endpoint.trip.most, endpoint.trip.rto), (10, 80, 40))
            self.assertEqual((endpoint.sender.nxt, endpoint.sender.una, endpoint.sender.finished), (0, 0, False))

    def test_the_kind_of_control(self):
        for word, kind in (("reno", Reno), ("cubic", Cubic)):
            endpoint = Endpoint(options(control=word), 7)
            self.assertIs(endpoint.control.__class__, kind)
            endpoint = Endpoint.answering(options(control=word), 7, Piece(0, syn=True), mss=60, selective=True)
            self.assertIs(endpoint.control.__class__, kind)

    def test_the_control_starts_for_the_first_mss(self):
        self.assertEqual(Endpoint(options(), 7).control.cwnd, 1000)
        endpoint = Endpoint.answering(options(), 7, Piece(0, syn=True), mss=60, selective=True)
        self.assertEqual(endpoint.control.cwnd, 600)

    def test_one_that_answers_has_taken_only_the_syn(self):
        piece = Piece(0, syn=True, data=[1, 2, 3], fin=True, marked=True, cut=True, window=5, ack=1, ranges=[(3, 4)])
        endpoint = Endpoint.answering(options(), 7, piece, mss=60, selective=True)
        receiver = endpoint.receiver
        self.assertEqual((receiver.nxt, receiver.ready, receiver.holds, receiver.end, receiver.edge),
                         (1, 0, 0, None, 1001))
        self.assertEqual((endpoint.sender.una, endpoint.sender.edge), (0, 1))
        self.assertEqual((endpoint.asked, endpoint.ack_at, endpoint.late, endpoint.marked), (False, None, 0, False))
        self.assertEqual(piece.data, [1, 2, 3])

    def test_one_that_opens_has_taken_nothing(self):
        self.assertEqual(Endpoint(options(), 7).receiver.nxt, 0)

    def test_the_options_are_its_own(self):
        given = options()
        endpoint = Endpoint(given, 7)
        given.pace = 1
        self.assertEqual(endpoint.options, options())


class PropertiesTest(unittest.TestCase):
    def test_ended_and_open(self):
        for phase in PHASES:
            endpoint = in_phase(phase)
            self.assertIs(endpoint.has_ended, phase == "ended")
            self.assertIs(endpoint.is_open, phase not in ("syn sent", "syn received", "ended"))

    def test_the_cause(self):
        for phase in PHASES[:-1]:
            self.assertIsNone(in_phase(phase).cause)
        for cause in CAUSES:
            self.assertEqual(ended(cause).cause, cause)

    def test_the_flight(self):
        endpoint = in_phase("established")
        self.assertEqual(endpoint.flight, 0)
        endpoint.write([1, 2, 3])
        self.assertEqual(endpoint.flight, 0)
        endpoint.output(0)
        self.assertEqual(endpoint.flight, 3)
        endpoint.arrive(answer(1, ack=3), 1)
        self.assertEqual(endpoint.flight, 1)

    def test_needs_an_answer(self):
        expected = {"syn sent": True, "syn received": True, "established": False, "fin wait 1": True,
                    "fin wait 2": False, "close wait": False, "closing": True, "last ack": True, "time wait": False,
                    "ended": False}
        self.assertEqual({phase: in_phase(phase).needs_answer for phase in PHASES}, expected)

    def test_needs_an_answer_with_something_unsent(self):
        endpoint = Endpoint(options(), 0)
        self.assertIs(endpoint.needs_answer, True)
        for phase in ("established", "close wait"):
            endpoint = in_phase(phase)
            endpoint.write([1])
            self.assertEqual(endpoint.flight, 0)
            self.assertIs(endpoint.needs_answer, True)

    def test_one_that_has_ended_needs_no_answer(self):
        endpoint = in_phase("established")
        endpoint.write([1])
        endpoint.output(0)
        endpoint.write([2])
        endpoint.abort()
        self.assertEqual((endpoint.flight, endpoint.sender.unsent), (1, True))
        self.assertIs(endpoint.needs_answer, False)

    def test_one_in_time_wait_needs_no_answer(self):
        endpoint = in_phase("fin wait 1")
        endpoint.phase = "time wait"
        self.assertEqual(endpoint.flight, 1)
        self.assertIs(endpoint.needs_answer, False)

    def test_timeout_and_patience(self):
        endpoint = Endpoint(options(tries=7, max_rto=90), 0)
        self.assertEqual((endpoint.timeout, endpoint.patience), (40, 630))
        endpoint.trip.back_off()
        self.assertEqual(endpoint.timeout, 80)


class WriteTest(unittest.TestCase):
    def test_in_each_phase(self):
        for phase in ("syn sent", "syn received", "established", "close wait"):
            endpoint = in_phase(phase)
            self.assertEqual(endpoint.write([1, 2, 3]), 3)
            self.assertEqual(endpoint.sender.written, 3)
            self.assertEqual(endpoint.phase, phase)
        for phase in ("fin wait 1", "fin wait 2", "closing", "last ack", "time wait", "ended"):
            endpoint = in_phase(phase)
            self.assertEqual(changes(endpoint, lambda: endpoint.write([1, 2, 3])), {"returned": 0})

    def test_only_what_fits_is_taken(self):
        endpoint = in_phase("established")
        self.assertEqual(endpoint.write([1] * 999), 999)
        self.assertEqual(endpoint.write([1] * 3), 1)
        self.assertEqual(endpoint.write([1] * 3), 0)

    def test_one_that_has_ended_takes_nothing(self):
        for cause in CAUSES:
            endpoint = ended(cause)
            self.assertEqual(changes(endpoint, lambda: endpoint.write([1])), {"returned": 0})

    def test_a_write_changes_nothing_else(self):
        endpoint = in_phase("established")
        self.assertEqual(changes(endpoint, lambda: endpoint.write([1])),
                         {"returned": 1, "sender written": 1, "sender free": 999})


class FinishTest(unittest.TestCase):
    def test_in_each_phase(self):
        expected = {"syn sent": "syn sent", "syn received": "syn received", "established": "fin wait 1",
                    "close wait": "last ack"}
        for phase in PHASES:
            endpoint = in_phase(phase)
            found = changes(endpoint, endpoint.finish)
            if phase in expected:
                self.assertEqual((endpoint.phase, endpoint.cause), (expected[phase], None))
                found.pop("phase", None)
                self.assertEqual(found, {"sender finished": True, "sender free": 0})
            else:
                self.assertEqual(found, {})

    def test_a_second_time(self):
        for phase in ("syn sent", "syn received", "established", "close wait"):
            endpoint = in_phase(phase)
            self.assertIsNone(endpoint.finish())
            self.assertEqual(changes(endpoint, endpoint.finish), {})

    def test_one_that_has_ended(self):
        for cause in CAUSES:
            endpoint = ended(cause)
            self.assertEqual(changes(endpoint, endpoint.finish), {})
        self.assertFalse(ended("aborted").sender.finished)

    def test_the_phase_of_one_that_finished_before_it_was_open(self):
        endpoint = in_phase("syn sent")
        endpoint.finish()
        endpoint.arrive(Piece(0, syn=True, ack=1, window=1000), 0, agreed=(100, True))
        self.assertEqual(endpoint.phase, "fin wait 1")
        endpoint = in_phase("syn received")
        endpoint.finish()
        endpoint.arrive(answer(1, fin=True), 0)
        self.assertEqual(endpoint.phase, "closing")


class ReadTest(unittest.TestCase):
    def filled(self, count, **changed):
        """Established, with octets that are ready and acknowledged."""
        endpoint = in_phase("established", **changed)
        for start in range(0, count, 100):
            endpoint.arrive(answer(start + 1, data=[start // 100] * min(100, count - start)), 0)
        endpoint.output(9)
        return endpoint

    def test_octets_come_in_order(self):
        endpoint = in_phase("established")
        endpoint.arrive(answer(1, data=[5, 6, 7]), 0)
        endpoint.arrive(answer(4, data=[8]), 0)
        self.assertEqual(endpoint.read(0), [])
        self.assertEqual(endpoint.read(2), [5, 6])
        self.assertEqual(endpoint.read(20), [7, 8])
        self.assertEqual(endpoint.read(20), [])

    def test_the_edge_would_move(self):
        endpoint = self.filled(300)
        self.assertIsNone(endpoint.ack_at)
        endpoint.read(99)
        self.assertIsNone(endpoint.ack_at)
        endpoint.read(1)
        self.assertEqual(endpoint.ack_at, 0)

    def test_the_mss_of_the_endpoint_counts(self):
        endpoint = self.filled(300)
        endpoint.mss = 40
        endpoint.read(39)
        self.assertIsNone(endpoint.ack_at)
        endpoint.read(1)
        self.assertEqual(endpoint.ack_at, 0)

    def test_a_pending_acknowledgement_is_hastened(self):
        endpoint = self.filled(300)
        endpoint.ack_at = 500
        endpoint.read(99)
        self.assertEqual(endpoint.ack_at, 500)
        endpoint.read(1)
        self.assertEqual(endpoint.ack_at, 0)

    def test_behind_the_end(self):
        endpoint = self.filled(300)
        endpoint.arrive(answer(301, fin=True), 0)
        endpoint.output(9)
        self.assertEqual(len(endpoint.read(200)), 200)
        self.assertTrue(endpoint.receiver.would_move(100))
        self.assertIsNone(endpoint.ack_at)

    def test_in_phases_of_one_that_has_finished(self):
        endpoint = self.filled(300)
        endpoint.finish()
        endpoint.output(9)
        endpoint.read(100)
        self.assertEqual((endpoint.phase, endpoint.ack_at), ("fin wait 1", 0))

    def test_of_one_that_is_not_open(self):
        endpoint = in_phase("syn received")
        endpoint.arrive(Piece(1, data=[1] * 100), 0)
        endpoint.arrive(Piece(101, data=[1] * 100), 0)
        endpoint.output(0)
        self.assertEqual(endpoint.phase, "syn received")
        self.assertEqual(len(endpoint.read(200)), 200)
        self.assertTrue(endpoint.receiver.would_move(100))
        self.assertIsNone(endpoint.ack_at)
        self.assertEqual(in_phase("syn sent").read(5), [])

    def test_of_one_that_has_ended(self):
        endpoint = self.filled(300)
        endpoint.abort()
        self.assertEqual(changes(endpoint, lambda: endpoint.read(200)),
                         {"returned": [0] * 100 + [1] * 100, "receiver ready": 100})
        self.assertEqual(endpoint.read(200), [2] * 100)


class AbortTest(unittest.TestCase):
    def test_in_each_phase(self):
        for phase in PHASES[:-1]:
            endpoint = in_phase(phase)
            expected = {"phase": "ended", "cause": "aborted"}
            if phase != "syn sent":
                expected["over"] = True
            self.assertEqual(changes(endpoint, endpoint.abort), expected)

    def test_one_that_has_ended(self):
        for cause in CAUSES:
            endpoint = ended(cause)
            self.assertEqual(changes(endpoint, endpoint.abort), {})

    def test_before_the_first_output(self):
        endpoint = Endpoint(options(), 0)
        self.assertIsNone(endpoint.abort())
        self.assertEqual((endpoint.phase, endpoint.cause, endpoint.over), ("ended", "aborted", False))
        endpoint = Endpoint.answering(options(), 0, Piece(0, syn=True), mss=60, selective=True)
        endpoint.abort()
        self.assertEqual((endpoint.phase, endpoint.cause, endpoint.over), ("ended", "aborted", True))


class BehindTheEndTest(unittest.TestCase):
    def test_nothing_changes_but_over_and_what_is_ready(self):
        for cause in CAUSES:
            endpoint = ended(cause)
            before = state(endpoint)
            endpoint.write([1])
            endpoint.finish()
            endpoint.abort()
            endpoint.arrive(answer(1, data=[1], fin=True, marked=True, cut=True, stamp=(4, 5), ack=1), 9, marked=True)
            endpoint.arrive(Piece(0, syn=True, ack=1), 9, agreed=(8, True))
            endpoint.arrive(Piece(1, reset=True), 9)
            endpoint.tick(10 ** 6)
            endpoint.output(10 ** 6)
            endpoint.read(0)
            self.assertEqual(state(endpoint), before)


class ForkTest(unittest.TestCase):
    def test_an_equal_state(self):
        for phase in PHASES:
            endpoint = in_phase(phase)
            other = endpoint.fork()
            self.assertIsNot(other, endpoint)
            self.assertEqual(state(other), state(endpoint))
            self.assertEqual(other.options, endpoint.options)

    def test_each_value(self):
        endpoint = in_phase("established")
        values = {**{name: True for name in ("selective", "asked", "again", "probe", "over", "marked", "cut")},
                  "mss": 9, "alarm": 10, "since": 11, "ack_at": 12, "late": 13, "rest": 14, "spent_at": 15, "spent": 16,
                  "stamp": 17, "phase": "ended", "cause": "silent"}
        self.assertEqual(sorted(values), sorted(FIELDS))
        for name, value in values.items():
            setattr(endpoint, name, value)
        self.assertEqual(fields(endpoint.fork()), values)

    def test_later_calls_change_only_one(self):
        endpoint = in_phase("established", control="cubic")
        endpoint.arrive(answer(1, data=[1, 2, 3]), 1, marked=True)
        endpoint.arrive(answer(10, data=[1, 2, 3]), 1)
        endpoint.write([1] * 300)
        endpoint.output(1)
        endpoint.arrive(answer(1, ranges=[(101, 201)]), 1)
        for one, other in ((endpoint, endpoint.fork()), (endpoint.fork(), endpoint)):
            before = state(other)
            one.arrive(answer(4, data=[9] * 6, ack=101, marked=True, cut=True, stamp=(8, 1)), 20)
            one.write([7])
            one.read(1)
            one.output(20)
            one.tick(500)
            one.output(500)
            one.abort()
            self.assertEqual(state(other), before)

    def test_a_fork_goes_on_in_the_same_way(self):
        endpoint = in_phase("established")
        endpoint.write([1] * 300)
        endpoint.output(1)
        endpoint.arrive(answer(10, data=[1, 2, 3], ranges=[(101, 201)]), 1)
        other = endpoint.fork()
        for one in (endpoint, other):
            one.write([2])
        self.assertEqual(endpoint.output(3), other.output(3))
        for one in (endpoint, other):
            one.arrive(answer(1, data=[4] * 9, ack=1, ranges=[(101, 201), (201, 302)]), 5)
            one.tick(60)
        self.assertEqual(endpoint.output(60), other.output(60))
        self.assertEqual(state(endpoint), state(other))
        self.assertEqual(endpoint.read(50), other.read(50))


if __name__ == "__main__":
    unittest.main()
