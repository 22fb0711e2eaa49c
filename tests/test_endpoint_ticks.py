"""Ticks of an endpoint (point 73)."""

import unittest

from tests.endpoints import CAUSES, PHASES, answer, changes, ended, in_phase, options
from throughline.endpoint.endpoint import Endpoint
from throughline.offsets.piece import Piece

WAITING = ("syn sent", "syn received", "fin wait 1", "closing", "last ack")
OPEN = ("established", "fin wait 1", "fin wait 2", "close wait", "closing", "last ack")


def tick(endpoint, now):
    return changes(endpoint, lambda: endpoint.tick(now))


def sending(count=300, **changed):
    endpoint = in_phase("established", **changed)
    endpoint.write([1] * count)
    endpoint.output(0)
    return endpoint


class EndTest(unittest.TestCase):
    def test_one_that_has_ended(self):
        for cause in CAUSES:
            endpoint = ended(cause)
            endpoint.alarm = 5
            self.assertEqual(tick(endpoint, 10 ** 6), {})

    def test_time_wait(self):
        for now in (0, 1, 289):
            self.assertEqual(tick(in_phase("time wait"), now), {})
        for now in (290, 291, 10 ** 6):
            self.assertEqual(tick(in_phase("time wait"), now), {"phase": "ended", "cause": "done"})

    def test_nothing_else_happens_in_time_wait(self):
        endpoint = in_phase("time wait", keep_alive=5)
        self.assertEqual(tick(endpoint, 200), {})
        endpoint.alarm = 100
        self.assertEqual(tick(endpoint, 201), {})
        self.assertEqual(tick(endpoint, 290), {"phase": "ended", "cause": "done"})


class AlarmTest(unittest.TestCase):
    def test_an_alarm_that_is_not_due(self):
        for phase in WAITING:
            endpoint = in_phase(phase)
            self.assertEqual(endpoint.alarm, 40)
            self.assertEqual(tick(endpoint, 39), {})

    def test_an_alarm_that_is_due(self):
        for phase in WAITING:
            for now in (40, 41, 70):
                endpoint = in_phase(phase)
                found = tick(endpoint, now)
                self.assertEqual((found["alarm"], found["trip rto"], found["again"]), (now + 80, 80, True))
                self.assertEqual(endpoint.phase, phase)

    def test_no_alarm(self):
        for phase in ("established", "fin wait 2", "close wait"):
            endpoint = in_phase(phase)
            self.assertIsNone(endpoint.alarm)
            self.assertEqual(tick(endpoint, 10 ** 6), {})

    def test_the_timeout_of_sender_and_control(self):
        endpoint = sending(900)
        endpoint.arrive(answer(1, ranges=[(501, 701)]), 5)
        found = tick(endpoint, 40)
        self.assertEqual(found, {"alarm": 120, "again": True, "sender recovery": 901, "sender lost": 901,
                                 "sender sacked": [], "sender repeated": 0, "trip rto": 80, "control cwnd": 100,
                                 "control thresh": 450, "control peak": 1000, "control prior": 1000})

    def test_the_control_takes_the_mss_of_the_endpoint(self):
        endpoint = sending(900)
        endpoint.mss = 64
        self.assertEqual(tick(endpoint, 40)["control cwnd"], 64)

    def test_nothing_in_flight(self):
        # The other side has closed its window, so that what was written is not sent.
        endpoint = in_phase("established")
        endpoint.sender.edge = 1
        endpoint.write([1] * 10)
        self.assertEqual(endpoint.output(0), [])
        self.assertEqual((endpoint.alarm, endpoint.flight), (40, 0))
        self.assertEqual(tick(endpoint, 40), {"alarm": 120, "probe": True, "trip rto": 80})

    def test_the_timeout_doubles_up_to_its_bound(self):
        endpoint = sending(10, max_rto=300)
        found = []
        for now in range(600):
            if "alarm" in tick(endpoint, now):
                found.append((now, endpoint.timeout))
        self.assertEqual(found, [(40, 80), (120, 160), (280, 300), (580, 300)])

    def test_since_stays(self):
        endpoint = sending()
        self.assertNotIn("since", tick(endpoint, 40))


class GivingUpTest(unittest.TestCase):
    def test_at_the_end_of_its_patience(self):
        # 3 waits of 80 ticks.
        for phase in WAITING:
            endpoint = in_phase(phase)
            self.assertEqual(tick(endpoint, 240), {"phase": "ended", "cause": "gave up"})
            self.assertEqual(tick(in_phase(phase), 999), {"phase": "ended", "cause": "gave up"})
            endpoint = in_phase(phase)
            self.assertEqual(tick(endpoint, 239)["alarm"], 319)

    def test_it_counts_from_since(self):
        endpoint = sending()
        endpoint.since = 100
        self.assertEqual(tick(endpoint, 339)["alarm"], 419)
        self.assertEqual(tick(endpoint, 419), {"phase": "ended", "cause": "gave up"})

    def test_only_if_the_alarm_is_due(self):
        endpoint = sending()
        endpoint.alarm = 501
        self.assertEqual(tick(endpoint, 500), {})
        endpoint.alarm = None
        self.assertEqual(tick(endpoint, 500), {})

    def test_silent_if_no_answer_is_needed(self):
        endpoint = in_phase("established")
        endpoint.alarm = 40
        self.assertEqual(tick(endpoint, 240), {"phase": "ended", "cause": "silent"})
        endpoint = in_phase("established")
        endpoint.alarm = 40
        self.assertEqual(tick(endpoint, 239), {"alarm": 319, "probe": True, "trip rto": 80})

    def test_something_unsent_needs_an_answer(self):
        endpoint = in_phase("established")
        endpoint.sender.edge = 1
        endpoint.write([1])
        endpoint.output(0)
        self.assertEqual(tick(endpoint, 240), {"phase": "ended", "cause": "gave up"})

    def test_over_stays_false(self):
        endpoint = sending()
        endpoint.tick(240)
        self.assertEqual((endpoint.over, endpoint.output(240)), (False, []))

    def test_one_that_nobody_answers(self):
        endpoint = Endpoint(options(), 0)
        sent = []
        for now in range(300):
            endpoint.tick(now)
            sent.extend((now, piece.syn) for piece in endpoint.output(now))
        self.assertEqual(sent, [(0, True), (40, True), (120, True), (200, True)])
        self.assertEqual((endpoint.phase, endpoint.cause), ("ended", "gave up"))


class KeepAliveTest(unittest.TestCase):
    def test_a_probe(self):
        for phase in ("established", "fin wait 2", "close wait"):
            for now in (30, 31, 500):
                endpoint = in_phase(phase, keep_alive=30)
                self.assertEqual(tick(endpoint, now), {"probe": True, "alarm": now + 40, "since": now})

    def test_too_early(self):
        for phase in OPEN:
            self.assertEqual(tick(in_phase(phase, keep_alive=30), 29), {})

    def test_it_counts_from_since(self):
        endpoint = in_phase("established", keep_alive=30)
        endpoint.arrive(answer(1), 17)
        self.assertEqual(tick(endpoint, 46), {})
        self.assertEqual(tick(endpoint, 47), {"probe": True, "alarm": 87, "since": 47})

    def test_there_is_none(self):
        self.assertEqual(tick(in_phase("established", keep_alive=0), 10 ** 6), {})

    def test_not_while_it_waits(self):
        for phase in ("fin wait 1", "closing", "last ack"):
            self.assertEqual(tick(in_phase(phase, keep_alive=20), 39), {})
        endpoint = sending(keep_alive=20)
        self.assertEqual(tick(endpoint, 39), {})

    def test_not_at_one_that_is_not_open(self):
        for phase in ("syn sent", "syn received"):
            endpoint = in_phase(phase, keep_alive=20)
            endpoint.alarm = None
            self.assertEqual(tick(endpoint, 30), {})
        for phase in OPEN:
            endpoint = in_phase(phase, keep_alive=20)
            endpoint.alarm = None
            self.assertEqual(tick(endpoint, 30), {"probe": True, "alarm": 70, "since": 30})

    def test_not_in_the_tick_at_which_a_wait_is_over(self):
        endpoint = sending(keep_alive=20)
        found = tick(endpoint, 40)
        self.assertEqual((found["alarm"], endpoint.probe, endpoint.since), (120, False, 0))

    def test_an_answer_ends_the_wait(self):
        endpoint = in_phase("established", keep_alive=30)
        endpoint.tick(30)
        self.assertEqual([piece.start for piece in endpoint.output(30)], [0])
        endpoint.arrive(answer(1), 35)
        self.assertEqual((endpoint.alarm, endpoint.since), (None, 35))
        self.assertEqual(tick(endpoint, 64), {})
        self.assertEqual(tick(endpoint, 65)["probe"], True)

    def test_nobody_answers(self):
        endpoint = in_phase("established", keep_alive=30)
        sent = []
        for now in range(400):
            endpoint.tick(now)
            sent.extend((now, piece.start, piece.size) for piece in endpoint.output(now))
        self.assertEqual(sent, [(30, 0, 0), (70, 0, 0), (150, 0, 0), (230, 0, 0)])
        self.assertEqual((endpoint.phase, endpoint.cause), ("ended", "silent"))

    def test_what_is_silent_is_so_in_each_phase_that_needs_no_answer(self):
        for phase in ("established", "fin wait 2", "close wait"):
            endpoint = in_phase(phase, keep_alive=30, tries=1)
            endpoint.tick(30)
            endpoint.output(30)
            self.assertEqual(tick(endpoint, 110), {"phase": "ended", "cause": "silent"})

    def test_a_piece_in_every_phase_is_a_sign_of_life(self):
        for phase in PHASES[1:-1]:
            endpoint = in_phase(phase, keep_alive=30)
            endpoint.arrive(Piece(1), 25)
            self.assertEqual(endpoint.since, 25)


if __name__ == "__main__":
    unittest.main()
