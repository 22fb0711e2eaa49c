"""The analysis of records (points 142 to 148)."""

import random
import unittest

from tests.drawn_records import changed_records, played
from tests.frozen import frozen
from tests.judge_model import AnalysisModel
from tests.segments import Talk, packet
from throughline.host.packet import Packet
from throughline.records.analysis import analyse
from throughline.records.judge import streams
from throughline.wire.segment import Segment

KEYS = ["sender", "source", "target", "target_port", "count", "octets", "arrived", "segments", "data", "empty", "again",
        "disorder", "lost", "marked", "zero_windows", "flight", "stall", "trips", "ticks", "window_ticks", "net_ticks",
        "sender_ticks", "limit"]


def of_a(talk, *names):
    """Values of the report of the direction of A."""
    report = [report for report in analyse(talk.records) if report["sender"] == 1][0]
    return report[names[0]] if len(names) == 1 else tuple(report[name] for name in names)


def of_b(talk, *names):
    report = [report for report in analyse(talk.records) if report["sender"] == 2][0]
    return report[names[0]] if len(names) == 1 else tuple(report[name] for name in names)


class ReportsTest(unittest.TestCase):
    def test_no_records(self):
        self.assertEqual(analyse([]), [])

    def test_a_single_syn(self):
        report, = analyse(Talk().at(7).a(syn=True, echo=None).records)
        self.assertEqual(list(report), KEYS)
        self.assertEqual(report, {
            "sender": 1, "source": 70, "target": 2, "target_port": 80, "count": 5, "octets": 0, "arrived": 0,
            "segments": 1, "data": 0, "empty": 0, "again": 0, "disorder": 0, "lost": 0, "marked": 0, "zero_windows": 0,
            "flight": 1, "stall": 0, "trips": [], "ticks": 0, "window_ticks": 0, "net_ticks": 0, "sender_ticks": 0,
            "limit": "window"})

    def test_a_small_transfer(self):
        talk = Talk().at(0).a(syn=True, echo=None, stamp=(10, 0)).at(2).a("delivered", syn=True, echo=None, stamp=(10, 0))
        talk.b(syn=True, ack=1, stamp=(12, 10)).at(5).b("delivered", syn=True, ack=1, stamp=(12, 10))
        talk.a(seq=1, ack=1, data=[1, 2, 3]).at(9).a("delivered", seq=1, ack=1, data=[1, 2, 3])
        talk.at(12).both("b", seq=1, ack=4, stamp=(20, 9))
        one, two = analyse(talk.records)
        self.assertEqual(one, {
            "sender": 1, "source": 70, "target": 2, "target_port": 80, "count": 5, "octets": 3, "arrived": 3,
            "segments": 2, "data": 3, "empty": 0, "again": 0, "disorder": 0, "lost": 0, "marked": 0, "zero_windows": 0,
            "flight": 3, "stall": 7, "trips": [4294967291, 3], "ticks": 12, "window_ticks": 5, "net_ticks": 7,
            "sender_ticks": 0, "limit": "net"})
        self.assertEqual((list(two), two["sender"], two["octets"], two["segments"], two["empty"], two["ticks"]),
                         (KEYS, 2, 0, 2, 1, 10))

    def test_the_order_of_the_directions(self):
        talk = Talk().b("delivered", syn=True).a("lost", syn=True, echo=None).b(syn=True).a(syn=True, echo=None)
        talk.add(packet(1, 2, Segment(70, 80, seq=1, count=6)))
        self.assertEqual([(report["sender"], report["count"]) for report in analyse(talk.records)],
                         [(2, 9), (1, 5), (1, 6)])

    def test_only_directions_in_which_a_segment_was_sent(self):
        for word in ("delivered", "lost", "copied", "marked", "expired"):
            self.assertEqual(analyse(Talk().a(word, syn=True, echo=None).records), [])
        self.assertEqual(analyse(Talk().a(seq=1, reset=True).add(Packet(1, 2, [1])).records), [])

    def test_resets_and_what_is_no_segment_show_nothing(self):
        talk = Talk().open().both("a", seq=1, ack=1, data=[1])
        before = analyse(talk.records)
        talk.at(99).both("a", seq=1, ack=1, reset=True, data=[1]).add(Packet(1, 2, [5])).add(Packet(1, 2, [5]), "lost")
        self.assertEqual(analyse(talk.records), before)

    def test_a_segment_without_a_start(self):
        # It is shown with the start 0.
        talk = Talk().a(seq=50, data=[1, 2])
        self.assertEqual(of_a(talk, "octets", "segments", "data", "flight", "again"), (0, 1, 2, 2, 0))
        talk.a(seq=90, data=[1])
        self.assertEqual(of_a(talk, "segments", "flight", "again"), (2, 2, 1))

    def test_the_start_is_read_with_what_is_known_after_the_record(self):
        # A number is read as an offset only near the octets of this very segment.
        half = 2147483648
        talk = Talk().open().a(seq=1, ack=1, data=[1] * 10)
        self.assertEqual(of_a(talk, "octets"), 10)
        talk.a(seq=half + 9, ack=1)
        self.assertEqual(of_a(talk, "flight"), half + 8)

    def test_the_records_are_left_alone(self):
        records = played(random.Random(3), ticks=30).records
        before = frozen(records)
        one = analyse(records)
        one[0]["trips"].append(5)
        self.assertEqual(frozen(records), before)
        self.assertNotEqual(analyse(records), one)


class CountsTest(unittest.TestCase):
    def test_octets_and_what_arrived(self):
        talk = Talk().open().a(seq=1, ack=1, data=[1, 2]).both("a", seq=3, ack=1, data=[3]).a(seq=9, ack=1, data=[5])
        self.assertEqual(of_a(talk, "octets", "arrived"), (3, 0))
        talk.a("delivered", seq=1, ack=1, data=[1])
        self.assertEqual(of_a(talk, "octets", "arrived"), (3, 1))
        talk.a("delivered", seq=1, ack=1, data=[1, 2])
        self.assertEqual(of_a(talk, "octets", "arrived"), (3, 3))

    def test_segments_data_and_empty(self):
        talk = Talk().a(syn=True, echo=None)
        self.assertEqual(of_a(talk, "segments", "data", "empty"), (1, 0, 0))
        talk = Talk().open()
        self.assertEqual(of_a(talk, "segments", "data", "empty"), (2, 0, 1))
        talk.a(seq=1, ack=1, data=[1, 2]).a(seq=1, ack=1, data=[1, 2]).a(seq=3, ack=1, fin=True).a(seq=4, ack=1)
        self.assertEqual(of_a(talk, "segments", "data", "empty"), (6, 4, 2))
        for word in ("delivered", "lost", "copied", "marked", "expired"):
            talk.a(word, seq=1, ack=1, data=[1, 2])
            talk.a(word, seq=4, ack=1)
        self.assertEqual(of_a(talk, "segments", "data", "empty"), (6, 4, 2))

    def test_again(self):
        talk = Talk().open()
        for parts, again in [
            ({"seq": 1, "data": [1, 2, 3]}, 0), ({"seq": 1, "data": [1, 2, 3]}, 1), ({"seq": 2, "data": [2]}, 2),
            ({"seq": 3, "data": [3, 4]}, 2), ({"seq": 1}, 2), ({"seq": 5}, 2), ({"seq": 5, "fin": True}, 2),
            ({"seq": 5, "fin": True}, 3), ({"seq": 4, "data": [4], "fin": True}, 4), ({"syn": True, "echo": None}, 5),
        ]:
            talk.a(ack=1, **parts)
            self.assertEqual(of_a(talk, "again"), again, parts)

    def test_only_what_was_sent_makes_the_top(self):
        talk = Talk().open()
        for word in ("delivered", "lost", "copied", "marked", "expired"):
            talk.a(word, seq=1, ack=1, data=[1, 2, 3])
        talk.a(seq=1, ack=1, data=[1, 2, 3])
        self.assertEqual(of_a(talk, "again"), 0)

    def test_disorder(self):
        talk = Talk().open()
        for parts, disorder in [
            ({"seq": 3, "data": [3]}, 0), ({"seq": 1, "data": [1]}, 1), ({"seq": 2, "data": [2]}, 2),
            ({"seq": 3, "data": [3]}, 2), ({"seq": 1}, 2), ({"seq": 9}, 2), ({"seq": 5, "fin": True}, 2),
            ({"seq": 4, "fin": True}, 3), ({"seq": 5, "fin": True}, 3), ({"syn": True, "echo": None}, 4),
        ]:
            talk.a("delivered", ack=1, **parts)
            self.assertEqual(of_a(talk, "disorder"), disorder, parts)
        for word in ("sent", "lost", "copied", "marked", "expired"):
            talk.a(word, seq=1, ack=1, data=[1])
        self.assertEqual(of_a(talk, "disorder"), 4)

    def test_lost_and_marked(self):
        talk = Talk().open()
        for word, lost, marked in (("lost", 1, 0), ("expired", 2, 0), ("marked", 2, 1), ("copied", 2, 1), ("sent", 2, 1),
                                   ("delivered", 2, 1), ("marked", 2, 2), ("lost", 3, 2)):
            talk.a(word, seq=1, ack=1, data=[1])
            self.assertEqual(of_a(talk, "lost", "marked"), (lost, marked))
        talk.a("lost", seq=1, ack=1)
        self.assertEqual((of_a(talk, "lost", "marked"), of_b(talk, "lost", "marked")), ((4, 2), (0, 0)))

    def test_zero_windows(self):
        talk = Talk().a(syn=True, echo=None, window=0)
        self.assertEqual(of_a(talk, "zero_windows"), 0)
        talk = Talk().open()
        for parts, many in (({"window": 0}, 0), ({"window": 0, "ack": 1}, 1), ({"window": 1, "ack": 1}, 1),
                            ({"window": 0, "ack": 1, "data": [1]}, 2), ({"window": 0, "ack": 99, "echo": None}, 3),
                            ({"window": 0, "ack": 1, "syn": True}, 4)):
            talk.a(seq=1, **parts)
            self.assertEqual(of_a(talk, "zero_windows"), many)
        talk.a("delivered", seq=1, ack=1, window=0)
        self.assertEqual(of_a(talk, "zero_windows"), 4)


class FlightTest(unittest.TestCase):
    def test_the_greatest_flight(self):
        talk = Talk().open()
        self.assertEqual(of_a(talk, "flight"), 1)
        talk.a(seq=1, ack=1, data=[1] * 8).a(seq=9, ack=1, data=[1] * 4)
        self.assertEqual(of_a(talk, "flight"), 12)
        talk.a("delivered", seq=1, ack=1, data=[1] * 8).both("b", seq=1, ack=9).a(seq=13, ack=1, data=[1] * 5)
        self.assertEqual(of_a(talk, "flight"), 12)
        talk.a(seq=18, ack=1, data=[1] * 4)
        self.assertEqual(of_a(talk, "flight"), 13)

    def test_what_is_acknowledged_counts_once_it_is_delivered(self):
        talk = Talk().open().both("a", seq=1, ack=1, data=[1] * 8).b(seq=1, ack=9).a(seq=9, ack=1, data=[1])
        self.assertEqual(of_a(talk, "flight"), 9)
        talk = Talk().open().both("a", seq=1, ack=1, data=[1] * 8).both("b", seq=1, ack=9).a(seq=9, ack=1, data=[1])
        self.assertEqual(of_a(talk, "flight"), 8)

    def test_more_is_acknowledged_than_was_sent(self):
        talk = Talk().open().both("b", seq=1, ack=50).a(seq=1, ack=1, data=[1] * 8)
        self.assertEqual(of_a(talk, "flight"), 1)
        self.assertEqual(of_a(talk.a(seq=9, ack=1, data=[1] * 43), "flight"), 2)


class StallTest(unittest.TestCase):
    def test_a_wait_that_begins_and_one_that_goes_on(self):
        talk = Talk().open().at(10).a(seq=1, ack=1, data=[1])
        self.assertEqual(of_a(talk, "stall"), 0)
        # A wait began at the tick 10, as nothing was in flight before it.
        self.assertEqual(of_a(talk.at(13).a(seq=2, ack=1, data=[1]), "stall"), 3)
        self.assertEqual(of_a(talk.at(14).a("delivered", seq=1, ack=1, data=[1]), "stall"), 4)
        self.assertEqual(of_a(talk.at(16).both("b", seq=1, ack=1), "stall"), 6)
        # At 20 more is acknowledged; the stall is looked at before that, the wait begins again behind it.
        self.assertEqual(of_a(talk.at(20).both("b", seq=1, ack=2), "stall"), 10)
        self.assertEqual(of_a(talk.at(29).a("lost", seq=2, ack=1, data=[1]), "stall"), 10)
        self.assertEqual(of_a(talk.at(31).a(seq=2, ack=1, data=[1]), "stall"), 11)

    def test_idle_times_are_no_stalls(self):
        talk = Talk().open().at(500).both("a", seq=1, ack=1, data=[1]).at(502).both("b", seq=1, ack=2)
        self.assertEqual(of_a(talk, "stall"), 2)
        talk.at(900).both("a", seq=2, ack=1)
        self.assertEqual(of_a(talk, "stall"), 2)
        talk.at(990).a(seq=2, ack=1, data=[1]).at(993).a("delivered", seq=2, ack=1, data=[1])
        self.assertEqual(of_a(talk, "stall"), 3)

    def test_a_tick_that_goes_back(self):
        talk = Talk().at(50).a(syn=True, echo=None).at(20).a("delivered", syn=True, echo=None)
        self.assertEqual(of_a(talk, "stall", "ticks"), (0, -30))

    def test_the_first_view_begins_a_wait(self):
        talk = Talk().at(5).a("copied", seq=1).at(6).a(syn=True, echo=None).at(9).a("lost", syn=True, echo=None)
        self.assertEqual(of_a(talk, "stall", "ticks"), (3, 4))


class TripsTest(unittest.TestCase):
    def trips(self, *rows):
        """The trips of A, where (tick, ack, stamp) are segments of B that are delivered."""
        talk = Talk().open().a(seq=1, ack=1, data=[1] * 50)
        for tick, ack, stamp in rows:
            talk.at(tick).both("b", seq=1, ack=ack, stamp=stamp)
        return of_a(talk, "trips")

    def test_with_and_without_a_stamp(self):
        self.assertEqual(self.trips((30, 5, (9, 21))), [9])
        self.assertEqual(self.trips((30, 5, None)), [])
        self.assertEqual(self.trips((30, 5, (9, 0))), [])
        self.assertEqual(self.trips((30, 5, (0, 30))), [0])

    def test_across_the_remainder(self):
        self.assertEqual(self.trips((3, 5, (9, 4294967290))), [9])
        self.assertEqual(self.trips((30, 5, (9, 31))), [4294967295])
        self.assertEqual(self.trips((4294967300, 5, (9, 4294967295))), [5])

    def test_only_what_acknowledges_more(self):
        self.assertEqual(self.trips((30, 5, (9, 21)), (31, 5, (9, 21)), (32, 4, (9, 21)), (33, 6, (9, 21))), [9, 12])
        self.assertEqual(self.trips((30, 5, None), (31, 5, (9, 21)), (32, 6, (9, 22))), [10])

    def test_only_what_is_delivered(self):
        talk = Talk().open().a(seq=1, ack=1, data=[1] * 50).at(30)
        for word in ("sent", "lost", "copied", "marked", "expired"):
            talk.b(word, seq=1, ack=5, stamp=(9, 21))
        self.assertEqual(of_a(talk, "trips"), [])
        self.assertEqual(of_a(talk.b("delivered", seq=1, ack=5, stamp=(9, 21)), "trips"), [9])

    def test_they_belong_to_the_reverse_direction(self):
        talk = Talk().open().both("a", seq=1, ack=1, data=[1]).at(8).both("b", seq=1, ack=2, stamp=(7, 3))
        self.assertEqual((of_a(talk, "trips"), of_b(talk, "trips")), ([5], []))


class TicksTest(unittest.TestCase):
    def test_the_last_and_the_first_view(self):
        talk = Talk().at(4).a("marked", syn=True, echo=None).at(9).a(syn=True, echo=None)
        self.assertEqual(of_a(talk, "ticks"), 5)
        talk.at(20).a("expired", syn=True, echo=None)
        self.assertEqual(of_a(talk, "ticks"), 16)

    def test_back_views_count(self):
        talk = Talk().at(1).a(syn=True, echo=None).at(7).b("delivered", syn=True, ack=1)
        self.assertEqual(of_a(talk, "ticks"), 6)
        # What is sent back, and what acknowledges nothing, does not.
        talk.at(9).b(syn=True, ack=1).at(11).b("delivered", seq=1).at(12).b("delivered", seq=1, ack=-1)
        self.assertEqual(of_a(talk, "ticks"), 6)

    def test_views_of_both_kinds_by_one_record(self):
        talk = Talk().open().at(5).both("a", seq=1, ack=1, data=[1])
        self.assertEqual((of_a(talk, "ticks"), of_b(talk, "ticks")), (5, 5))


class LimitsTest(unittest.TestCase):
    def held(self, talk):
        return of_a(talk, "window_ticks", "net_ticks", "sender_ticks", "limit")

    def test_by_the_sender(self):
        talk = Talk().open().at(30).a(seq=1, ack=1)
        # Between the acknowledgement of the SYN and this segment, nothing was under way.
        self.assertEqual(self.held(talk), (0, 0, 30, "sender"))

    def test_by_the_window(self):
        # The SYN is under way, and no edge was told.
        self.assertEqual(self.held(Talk().a(syn=True, echo=None).at(4).a("lost", syn=True, echo=None)), (4, 0, 0, "window"))

    def test_the_window_and_the_net_at_the_edge(self):
        # The told edge is 21, the greatest segment has 8 octets.
        for size, held in ((4, (0, 9, 0, "net")), (5, (9, 0, 0, "window")), (3, (0, 9, 0, "net")), (6, (9, 0, 0, "window"))):
            talk = Talk().open(window=20).a(seq=1, ack=1, data=[1] * 8).a(seq=9, ack=1, data=[1] * size)
            talk.at(9).a("lost", seq=9, ack=1, data=[1] * size)
            self.assertEqual(self.held(talk), held)

    def test_the_greatest_segment_is_that_of_all_views(self):
        talk = Talk().open(window=20).a(seq=1, ack=1, data=[1] * 8).at(9).a("lost", seq=1, ack=1, data=[1] * 8)
        self.assertEqual(self.held(talk), (0, 9, 0, "net"))
        # 9 + 12 is not beyond 21, and 9 + 13 is; also of a segment that is sent later.
        self.assertEqual(self.held(talk.a(seq=9, ack=1, data=[1] * 12)), (0, 9, 0, "net"))
        self.assertEqual(self.held(talk.a(seq=9, ack=1, data=[1] * 13)), (9, 0, 0, "window"))

    def test_only_what_is_sent_makes_the_greatest_segment(self):
        talk = Talk().open(window=20).a(seq=1, ack=1, data=[1] * 8).at(9).a("lost", seq=1, ack=1, data=[1] * 13)
        self.assertEqual(self.held(talk), (0, 9, 0, "net"))

    def test_what_is_known_after_the_first_of_two_views(self):
        talk = Talk().open(window=1000).at(10).a(seq=1, ack=1, data=[1]).at(13).a("delivered", seq=1, ack=1, data=[1])
        talk.at(17).both("b", seq=1, ack=2).at(22).a(seq=2, ack=1, fin=True)
        self.assertEqual(self.held(talk), (0, 7, 15, "sender"))

    def test_ties(self):
        def talk(window, net, sender):
            given = Talk().at(0).a(syn=True, echo=None).at(window).a("delivered", syn=True, echo=None)
            given.both("b", syn=True, ack=1).at(window + sender).a(seq=1, ack=1, data=[1])
            return given.at(window + sender + net).a("lost", seq=1, ack=1, data=[1])

        for held, limit in [
            ((5, 5, 5), "window"), ((5, 5, 4), "window"), ((4, 5, 5), "net"), ((5, 4, 5), "window"), ((0, 0, 0), "window"),
            ((0, 0, 1), "sender"), ((0, 1, 0), "net"), ((0, 1, 1), "net"), ((3, 2, 4), "sender"), ((3, 4, 2), "net"),
        ]:
            self.assertEqual(self.held(talk(*held)), (*held, limit))

    def test_ticks_that_go_back(self):
        talk = Talk().open().at(30).a(seq=1, ack=1).at(10).a(seq=1, ack=1)
        self.assertEqual(self.held(talk), (0, 0, 10, "sender"))
        talk = Talk().at(30).open().at(10).a(seq=1, ack=1)
        self.assertEqual(self.held(talk), (0, 0, -20, "window"))


class DrawnRecordsTest(unittest.TestCase):
    def check(self, records):
        self.assertEqual([list(report.items()) for report in analyse(records)], AnalysisModel(records).reports())

    def test_records_of_nets(self):
        segments = 0
        for seed in range(12):
            given = played(random.Random(seed), ticks=40, count=2 + seed % 2)
            self.check(given.records)
            reports = analyse(given.records)
            self.assertEqual([report["octets"] for report in reports],
                             [len(direction.octets) for direction in streams(given.records)])
            for report in reports:
                self.assertEqual(report["window_ticks"] + report["net_ticks"] + report["sender_ticks"], report["ticks"])
            segments += sum(report["segments"] for report in reports)
        self.assertGreater(segments, 300)

    def test_changed_records(self):
        for seed in range(40):
            draws = random.Random(seed)
            records = played(draws, ticks=25).records[:150]
            self.check(changed_records(draws, records, draws.randrange(1, 12)))

    def test_a_direction_that_is_its_own_reverse(self):
        talk = Talk()
        for tick, word, parts in [
            (0, "sent", {"syn": True}), (2, "delivered", {"syn": True}), (3, "sent", {"seq": 501, "ack": 501, "data": [1, 2]}),
            (6, "delivered", {"seq": 501, "ack": 501, "data": [1, 2], "window": 30, "stamp": (1, 4)}),
        ]:
            segment = Segment(70, 70, **{"seq": 500, "count": 5, "echo": 5, **parts})
            talk.at(tick).add(packet(1, 1, segment), word)
        self.check(talk.records)
        report, = analyse(talk.records)
        # The own view comes first: the stall of 6 ticks is followed by the acknowledgement.
        self.assertEqual((report["flight"], report["stall"], report["trips"], report["ticks"]), (3, 6, [2], 6))


if __name__ == "__main__":
    unittest.main()
