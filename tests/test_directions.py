"""Directions: what is known of them, and what `streams` returns (points 124 to 126, 128 and 130)."""

import random
import unittest

from tests.frozen import frozen
from tests.segments import FIRST_A, FIRST_B, Talk, packet
from throughline.host.packet import Packet
from throughline.net.records import Record
from throughline.offsets.sets import OffsetSet
from throughline.records.directions import Direction
from throughline.records.judge import judge, streams
from throughline.wire.segment import Segment

PLACE = ("sender", "source", "target", "target_port", "count")


def places(given):
    return [tuple(getattr(direction, name) for name in PLACE) for direction in given]


A, B = (1, 70, 2, 80, 5), (2, 80, 1, 70, 9)


def of_a(talk):
    return [direction for direction in streams(talk.records) if direction.sender == 1][0]


def of_b(talk):
    return [direction for direction in streams(talk.records) if direction.sender == 2][0]


class DirectionTest(unittest.TestCase):
    def test_a_direction_of_which_nothing_is_known(self):
        given = Direction(1, 70, 2, 80, 5)
        self.assertEqual(places([given]), [A])
        self.assertEqual((given.first_number, given.scale, given.end, given.octets, given.edge, given.told),
                         (None, None, None, [], 0, 0))
        self.assertIsInstance(given.octets, list)
        self.assertEqual(given.delivered, OffsetSet())
        self.assertEqual(given.arrived, 0)

    def test_what_has_arrived(self):
        for ranges, octets, arrived in [
            ([], 5, 0), ([(1, 4)], 5, 0), ([(0, 1)], 5, 0), ([(0, 2)], 5, 1), ([(0, 4), (5, 6)], 5, 3),
            ([(0, 6)], 5, 5), ([(0, 7)], 5, 5), ([(0, 99)], 5, 5), ([(0, 99)], 0, 0), ([(2, 99)], 9, 0),
        ]:
            given = Direction(1, 70, 2, 80, 5)
            given.octets = [9] * octets
            for start, stop in ranges:
                given.delivered.include(start, stop)
            with self.subTest(ranges, octets=octets):
                self.assertEqual(given.arrived, arrived)
                self.assertEqual(given.delivered, OffsetSet(ranges))


class StreamsTest(unittest.TestCase):
    def test_no_records(self):
        self.assertEqual(streams([]), [])

    def test_the_order_of_the_first_records(self):
        talk = Talk()
        talk.b("delivered", syn=True).a(syn=True, echo=None).b(syn=True, ack=1).a(seq=1, ack=1)
        talk.add(packet(1, 2, Segment(70, 80, seq=1, count=6, syn=True)))
        self.assertEqual(places(streams(talk.records)), [A, B, (1, 70, 2, 80, 6)])

    def test_what_makes_a_direction(self):
        talk = Talk()
        for sender, target, source, target_port, count in (
                (1, 2, 70, 80, 5), (3, 2, 70, 80, 5), (1, 3, 70, 80, 5), (1, 2, 71, 80, 5), (1, 2, 70, 81, 5),
                (1, 2, 70, 80, 6), (1, 2, 70, 80, 5), (2, 1, 80, 70, 5)):
            talk.add(packet(sender, target, Segment(source, target_port, seq=7, count=count, syn=True)))
        # The echo is no part of it.
        talk.add(packet(1, 2, Segment(70, 80, seq=7, count=5, syn=True, echo=44)))
        self.assertEqual(places(streams(talk.records)), [
            (1, 70, 2, 80, 5), (3, 70, 2, 80, 5), (1, 70, 3, 80, 5), (1, 71, 2, 80, 5), (1, 70, 2, 81, 5),
            (1, 70, 2, 80, 6), (2, 80, 1, 70, 5)])

    def test_only_what_was_sent(self):
        for word in ("delivered", "lost", "copied", "marked", "expired"):
            talk = Talk().a(word, syn=True, echo=None)
            self.assertEqual(streams(talk.records), [])

    def test_resets_and_what_is_no_segment(self):
        talk = Talk()
        talk.a(reset=True).add(Packet(1, 2, [1, 2, 3]))
        talk.add(Packet(1, 2, []), "delivered")
        self.assertEqual(streams(talk.records), [])
        talk.a(seq=3)
        self.assertEqual(places(streams(talk.records)), [A])

    def test_a_reset_says_nothing(self):
        talk = Talk().open()
        before = frozen(streams(talk.records))
        talk.both("a", seq=1, ack=1, reset=True, data=[5], syn=True, fin=True, window=9000)
        talk.both("b", seq=9, ack=9, reset=True, fin=True)
        self.assertEqual(frozen(streams(talk.records)), before)

    def test_the_lists_are_new(self):
        talk = Talk().open().both("a", seq=1, ack=1, data=[5, 6])
        given = streams(talk.records)
        before = frozen(streams(talk.records))
        given[0].octets.append(9)
        given[0].delivered.include(50, 60)
        given[0].edge = 99
        given.clear()
        self.assertEqual(frozen(streams(talk.records)), before)

    def test_the_records_are_left_alone(self):
        talk = Talk().open().both("a", seq=1, ack=1, data=[5, 6])
        before = frozen(talk.records)
        streams(talk.records)
        judge(talk.records, life=5)
        self.assertEqual(frozen(talk.records), before)


class SentTest(unittest.TestCase):
    def test_a_syn(self):
        for scale in (None, 0, 7, 14):
            given, = streams(Talk().a(syn=True, echo=None, scale=scale).records)
            self.assertEqual((given.first_number, given.scale, given.octets, given.end), (FIRST_A, scale, [], None))
            self.assertEqual((given.delivered, given.edge, given.told), (OffsetSet(), 0, 0))

    def test_the_first_syn_counts(self):
        talk = Talk().a(syn=True, echo=None, scale=3).a(seq=77, syn=True, scale=5)
        self.assertEqual((of_a(talk).first_number, of_a(talk).scale), (FIRST_A, 3))
        talk = Talk().a(syn=True, echo=None).a(syn=True, scale=5)
        self.assertEqual((of_a(talk).first_number, of_a(talk).scale), (FIRST_A, None))

    def test_segments_without_syn_tell_no_first_number(self):
        given, = streams(Talk().a(seq=1, data=[5]).records)
        self.assertEqual((given.first_number, given.octets), (None, []))

    def test_only_records_sent_tell_the_first_number(self):
        for word in ("delivered", "lost", "copied", "marked", "expired"):
            talk = Talk().a(word, syn=True, echo=None, scale=3).a(seq=1)
            self.assertEqual((of_a(talk).first_number, of_a(talk).scale), (None, None))

    def test_octets(self):
        talk = Talk().open().a(seq=1, data=[1, 2]).a(seq=3, data=[3]).a(seq=2, data=[2, 3, 4, 5]).a(seq=6, fin=True)
        self.assertEqual((of_a(talk).octets, of_a(talk).end), ([1, 2, 3, 4, 5], 6))

    def test_octets_behind_a_syn(self):
        talk = Talk().a(syn=True, echo=None, data=[1, 2]).a(seq=2, data=[2, 3])
        self.assertEqual(of_a(talk).octets, [1, 2, 3])

    def test_octets_across_the_wire_numbers(self):
        talk = Talk().open().b(seq=1, data=list(range(10))).b(seq=11, data=[99])
        self.assertEqual(of_b(talk).first_number, FIRST_B)
        self.assertEqual(of_b(talk).octets, [*range(10), 99])

    def test_the_start_is_read_near_what_was_sent(self):
        # The same wire number is an offset near what was sent, or none at all below 0.
        talk = Talk().open().a(seq=-1, data=[5])
        self.assertEqual(of_a(talk).octets, [])
        self.assertIn("octets before these were not sent", [finding.problem for finding in judge(talk.records, life=9)])


class NearTest(unittest.TestCase):
    """Numbers are read near the number of octets sent plus 1: half a circle behind that, they are no offsets."""

    HALF = 2147483648

    def test_the_start(self):
        for octets in (0, 1, 10):
            for more, found in ((-1, []), (0, ["octets before these were not sent"])):
                talk = Talk().open(window=1000)
                if octets:
                    talk.a(seq=1, ack=1, data=[1] * octets)
                talk.a(seq=octets + 1 + self.HALF + more, ack=1)
                self.assertEqual([finding.problem for finding in judge(talk.records, life=9)], found)

    def test_what_is_acknowledged(self):
        for octets in (0, 1, 10):
            for more, is_read in ((-1, True), (0, False)):
                talk = Talk().open(window=1000)
                if octets:
                    talk.a(seq=1, ack=1, data=[1] * octets)
                ack = octets + 1 + self.HALF + more
                talk.both("b", seq=1, ack=ack)
                self.assertEqual(of_b(talk).told, ack + 1000 if is_read else 1001)
                self.assertEqual(of_a(talk).edge, ack + 1000 if is_read else 1001)


class DeliveredTest(unittest.TestCase):
    def test_the_offsets_of_a_segment(self):
        talk = Talk().open()
        self.assertEqual(list(of_a(talk).delivered), [(0, 1)])
        talk.a("delivered", seq=3, data=[1, 2])
        self.assertEqual(list(of_a(talk).delivered), [(0, 1), (3, 5)])
        talk.a("delivered", seq=7, fin=True)
        self.assertEqual(list(of_a(talk).delivered), [(0, 1), (3, 5), (7, 8)])
        talk.a("delivered", seq=5, data=[1], fin=True)
        self.assertEqual(list(of_a(talk).delivered), [(0, 1), (3, 8)])
        talk.a("delivered", seq=1, data=[1, 2])
        self.assertEqual(list(of_a(talk).delivered), [(0, 8)])

    def test_a_segment_of_size_0(self):
        talk = Talk().open().a("delivered", seq=5)
        self.assertEqual(list(of_a(talk).delivered), [(0, 1)])

    def test_a_syn_with_octets_and_an_end(self):
        talk = Talk().both("a", syn=True, echo=None, data=[1, 2], fin=True)
        self.assertEqual((list(of_a(talk).delivered), of_a(talk).arrived), ([(0, 4)], 2))

    def test_a_segment_without_a_start(self):
        talk = Talk().a(seq=1, data=[5]).a("delivered", seq=1, data=[5])
        self.assertEqual(list(of_a(talk).delivered), [])

    def test_a_syn_has_a_start_also_if_it_was_never_sent(self):
        talk = Talk().a("delivered", syn=True, echo=None, data=[7]).a(syn=True, echo=None)
        self.assertEqual(list(of_a(talk).delivered), [(0, 2)])

    def test_in_any_order_and_twice(self):
        pieces = [(0, {"syn": True, "echo": None}), (1, {"data": [1, 2]}), (3, {"data": [3]}), (4, {"data": [4, 5, 6]}),
                  (7, {"fin": True})]
        for seed in range(30):
            draws = random.Random(seed)
            talk = Talk()
            for start, parts in pieces:
                talk.a(seq=start, **parts)
            row = pieces + pieces[:draws.randrange(5)]
            draws.shuffle(row)
            known = set()
            for start, parts in row:
                talk.a("delivered", seq=start, **parts)
                known |= set(range(start, start + talk.segment_a(seq=start, **parts).size))
                given = of_a(talk)
                self.assertEqual([offset for offset in range(12) if offset in given.delivered], sorted(known))
                first_gap = min(set(range(12)) - known)
                self.assertEqual(given.arrived, min(first_gap - 1, 6) if 0 in known else 0)

    def test_records_of_each_word(self):
        for word in ("lost", "copied", "marked", "expired"):
            talk = Talk().open()
            before = frozen(streams(talk.records))
            talk.a(word, seq=1, ack=1, data=[5, 6], fin=True, window=9999)
            talk.b(word, seq=1, ack=1, data=[5, 6], fin=True, window=9999)
            self.assertEqual(frozen(streams(talk.records)), before)


class EdgesTest(unittest.TestCase):
    def test_what_a_sender_is_told_and_has_told(self):
        talk = Talk().a(syn=True, echo=None, window=300)
        self.assertEqual((of_a(talk).edge, of_a(talk).told), (0, 0))
        talk.a("delivered", syn=True, echo=None, window=300).b(syn=True, ack=1, window=400)
        self.assertEqual((of_b(talk).edge, of_b(talk).told, of_a(talk).edge), (0, 401, 0))
        talk.b("delivered", syn=True, ack=1, window=400)
        self.assertEqual((of_a(talk).edge, of_b(talk).edge), (401, 0))
        talk.both("a", seq=1, ack=1, window=500)
        self.assertEqual((of_a(talk).edge, of_a(talk).told, of_b(talk).edge, of_b(talk).told), (401, 501, 501, 401))

    def test_they_never_become_less(self):
        talk = Talk().open(window=1000)
        talk.both("b", seq=1, ack=1, window=10)
        self.assertEqual((of_a(talk).edge, of_b(talk).told), (1001, 1001))
        talk.both("b", seq=1, ack=1, window=1001)
        self.assertEqual((of_a(talk).edge, of_b(talk).told), (1002, 1002))

    def test_segments_that_acknowledge_nothing(self):
        for parts in ({"ack": None}, {"echo": None, "ack": 1}, {"echo": 6, "ack": 1}):
            talk = Talk().open(window=10)
            talk.both("b", seq=1, window=999, **parts)
            self.assertEqual((of_a(talk).edge, of_b(talk).told), (11, 11))
        # The first number of the reverse direction is not known.
        talk = Talk().both("b", syn=True, ack=1, window=10).both("a", syn=True, echo=None)
        self.assertEqual((of_a(talk).edge, of_b(talk).told), (0, 0))
        # No offset is read.
        talk = Talk().open(window=10).both("b", seq=1, ack=-1, window=999)
        self.assertEqual((of_a(talk).edge, of_b(talk).told), (11, 11))

    def test_units(self):
        for scale_a, scale_b, unit_a, unit_b in [
            (None, None, 1, 1), (None, 3, 1, 1), (3, None, 1, 1), (0, 0, 1, 1), (0, 3, 1, 8), (3, 0, 8, 1),
            (2, 5, 4, 32), (14, 14, 16384, 16384), (14, 1, 16384, 2), *[(0, k, 1, 2 ** k) for k in range(15)],
        ]:
            with self.subTest((scale_a, scale_b)):
                talk = Talk().both("a", syn=True, echo=None, scale=scale_a, window=9)
                talk.both("b", syn=True, ack=1, scale=scale_b, window=9)
                # A SYN has the unit 1.
                self.assertEqual((of_b(talk).told, of_a(talk).edge), (10, 10))
                talk.both("a", seq=1, ack=1, window=50)
                self.assertEqual((of_a(talk).told, of_b(talk).edge), (1 + 50 * unit_a, 1 + 50 * unit_a))
                talk.both("b", seq=1, ack=1, window=70)
                self.assertEqual((of_b(talk).told, of_a(talk).edge), (1 + 70 * unit_b, 1 + 70 * unit_b))

    def test_the_unit_of_a_direction_whose_own_shift_is_not_known(self):
        talk = Talk().both("a", syn=True, echo=None, scale=4)
        talk.both("b", seq=1, ack=1, window=70)
        self.assertEqual((of_a(talk).edge, of_b(talk).told), (71, 0))
        # Without a start, nothing else happens; with one, the power is 0.
        talk = Talk().both("a", syn=True, echo=None, scale=4).b("sent", syn=True, scale=None)
        talk.both("b", seq=1, ack=1, window=70)
        self.assertEqual((of_a(talk).edge, of_b(talk).told), (71, 71))

    def test_the_offset_is_read_near_what_was_sent(self):
        talk = Talk().open().a(seq=1, data=[1] * 20)
        talk.both("b", seq=1, ack=21, window=4)
        self.assertEqual((of_a(talk).edge, of_b(talk).told), (1001, 1001))
        talk.both("b", seq=1, ack=21, window=2000)
        self.assertEqual((of_a(talk).edge, of_b(talk).told), (2021, 2021))


class OwnReverseTest(unittest.TestCase):
    """A direction from an address and a port to the same ones, with its own count as echo."""

    def talk(self, *rows):
        given = []
        for at, (word, parts) in enumerate(rows):
            segment = Segment(70, 70, **{"seq": 500, "count": 5, "echo": 5, **parts})
            given.append(Record(0, at, word, packet(1, 1, segment)))
        return given

    def test_the_reverse_direction_is_the_one_from_before_the_record(self):
        # Its own first number is not known yet.
        one, = streams(self.talk(("sent", {"syn": True, "ack": 501, "window": 30})))
        self.assertEqual((one.first_number, one.told, one.edge), (500, 0, 0))
        one, = streams(self.talk(("sent", {"syn": True}), ("sent", {"syn": True, "ack": 501, "window": 30})))
        self.assertEqual((one.told, one.edge), (31, 0))

    def test_a_delivery(self):
        rows = [("sent", {"syn": True}), ("delivered", {"seq": 501, "ack": 501, "window": 30, "data": [1, 2]})]
        one, = streams(self.talk(*rows))
        self.assertEqual((one.edge, one.told, list(one.delivered)), (31, 0, [(1, 3)]))

    def test_octets_of_the_same_record_are_not_known_yet(self):
        half = 2147483648
        octets = [1] * 10
        # Read near 1, this number is no offset below 0; near 11 it would be one of more than 2 ** 31.
        number = (500 + 1 + half + 3) % 4294967296
        rows = [("sent", {"syn": True}), ("sent", {"seq": 501, "ack": number, "window": 7, "data": octets})]
        one, = streams(self.talk(*rows))
        self.assertEqual((one.octets, one.told), (octets, 0))
        one, = streams(self.talk(*rows, ("sent", {"seq": 501, "ack": number, "window": 7})))
        self.assertEqual(one.told, 1 + half + 3 + 7)


if __name__ == "__main__":
    unittest.main()
