"""Findings about connections, and all findings together (points 122, 127 and 129)."""

import random
import unittest

from tests.frozen import frozen
from tests.segments import Talk, packet, problems
from tests.test_net_records import drawn_net
from throughline.host.packet import Packet
from throughline.records.findings import Finding
from throughline.records.judge import judge, streams
from throughline.records.packets import judge_packets
from throughline.wire.segment import Segment

NO_SEGMENT = "the packet is not a segment"
BEFORE = "octets before these were not sent"
OTHER_OCTETS = "other octets were sent at these places"
OTHER_END = "the end is elsewhere"
BEYOND = "octets beyond the window"
TOO_MUCH = "more is acknowledged than was delivered"
WINDOW_BACK = "the window goes back"


def last(talk):
    """The problems of the last record of a talk whose other records have none."""
    given = judge(talk.records, life=1000)
    index = len(talk.records) - 1
    assert all(finding.index == index for finding in given), [(found.index, found.problem) for found in given]
    return problems(given, index)


class StartsTest(unittest.TestCase):
    def test_a_first_number_that_is_unknown(self):
        for parts in ({}, {"data": [1]}, {"fin": True}, {"data": [1], "fin": True, "ack": 1}):
            self.assertEqual(last(Talk().a(seq=1, **parts)), [BEFORE])
        self.assertEqual(last(Talk().a(syn=True, echo=None)), [])

    def test_nothing_else_happens_without_a_start(self):
        talk = Talk().a(syn=True, echo=None).a("delivered", syn=True, echo=None)
        # Each other step would find something.
        self.assertEqual(last(talk.b(seq=5, ack=9, data=[1], fin=True, window=50)), [BEFORE])
        given = [direction for direction in streams(talk.records) if direction.sender == 2][0]
        self.assertEqual((given.octets, given.end, given.told, given.first_number), ([], None, 0, None))

    def test_an_offset_that_is_not_read(self):
        for seq in (-1, -100, -2147483647):
            talk = Talk().open()
            self.assertEqual(last(talk.a(seq=seq, ack=1)), [BEFORE])
            self.assertEqual(last(Talk().open().a(seq=seq, ack=1, data=[1], fin=True)), [BEFORE])

    def test_octets_at_the_place_0(self):
        self.assertEqual(last(Talk().open().a(seq=0, ack=1, data=[1])), [BEFORE])
        # Without octets, a start of 0 is no problem.
        self.assertEqual(last(Talk().open().a(seq=0, ack=1)), [])

    def test_octets_behind_a_gap(self):
        for seq, found in ((1, []), (2, []), (3, []), (4, [BEFORE]), (99, [BEFORE])):
            talk = Talk().open().a(seq=1, ack=1, data=[7, 7])
            self.assertEqual(last(talk.a(seq=seq, ack=1, data=[7])), found)
        self.assertEqual(last(Talk().open().a(seq=50, ack=1)), [])

    def test_octets_behind_a_gap_are_not_learned(self):
        for seq in (0, 4, 99):
            talk = Talk().open().a(seq=1, ack=1, data=[7, 7]).a(seq=seq, ack=1, data=[8])
            self.assertEqual(streams(talk.records)[0].octets, [7, 7])

    def test_the_other_steps_go_on_behind_a_gap(self):
        talk = Talk().open(window=10).both("b", seq=1, ack=1, data=[3])
        talk.a(seq=5, ack=9, data=[8], fin=True, window=2000)
        self.assertEqual(last(talk), [BEFORE, TOO_MUCH])
        given = streams(talk.records)[0]
        self.assertEqual((given.octets, given.end, given.told), ([], 6, 2009))
        talk = Talk().open(window=100).both("a", seq=1, ack=1, window=300)
        self.assertEqual(last(talk.a(seq=0, ack=1, data=[8], window=10)), [BEFORE, WINDOW_BACK])
        # Not step 4: no octets were learned.
        talk = Talk().open(window=1).a(seq=1, ack=1, data=[1])
        self.assertEqual(last(talk.a(seq=3, ack=1, data=[8])), [BEFORE])

    def test_a_syn_with_octets(self):
        talk = Talk().open().a(seq=1, ack=1, data=[1, 2])
        self.assertEqual(last(talk.a(syn=True, echo=None, data=[1])), [])
        # A SYN has the start 0, whatever its seq is.
        self.assertEqual(last(talk.a(seq=44, syn=True, echo=None, data=[1, 2, 3])), [])
        self.assertEqual(streams(talk.records)[0].octets, [1, 2, 3])


class OctetsTest(unittest.TestCase):
    def talk(self):
        return Talk().open().a(seq=1, ack=1, data=[1, 2, 3, 4])

    def test_the_same_octets_again(self):
        for seq, data in ((1, [1]), (1, [1, 2, 3, 4]), (2, [2, 3]), (4, [4]), (4, [4, 5]), (1, [1, 2, 3, 4, 5]),
                          (5, [5]), (5, [9, 9])):
            self.assertEqual(last(self.talk().a(seq=seq, ack=1, data=data)), [])

    def test_other_octets(self):
        for seq, data, octets in [
            (1, [9], [1, 2, 3, 4]), (4, [9], [1, 2, 3, 4]), (2, [2, 9], [1, 2, 3, 4]), (1, [1, 2, 3, 9], [1, 2, 3, 4]),
            # The octets behind those that were sent before are learned all the same.
            (4, [9, 5], [1, 2, 3, 4, 5]), (3, [4, 3, 6, 7], [1, 2, 3, 4, 6, 7]),
        ]:
            talk = self.talk()
            self.assertEqual(last(talk.a(seq=seq, ack=1, data=data)), [OTHER_OCTETS])
            self.assertEqual(streams(talk.records)[0].octets, octets)

    def test_once_in_a_record(self):
        self.assertEqual(last(self.talk().a(seq=1, ack=1, data=[9, 9, 9, 9])), [OTHER_OCTETS])

    def test_each_direction_by_itself(self):
        talk = self.talk().b(seq=1, ack=1, data=[9, 9])
        self.assertEqual(last(talk), [])
        talk.add(packet(1, 2, Segment(70, 80, seq=5, count=6, syn=True, data=[8])))
        self.assertEqual(last(talk), [BEYOND])


class EndsTest(unittest.TestCase):
    def test_the_end_again(self):
        talk = Talk().open().a(seq=1, ack=1, data=[1, 2], fin=True)
        self.assertEqual(last(talk), [])
        for parts in ({"seq": 3, "fin": True}, {"seq": 2, "data": [2], "fin": True}, {"seq": 1, "data": [1]}, {"seq": 4}):
            self.assertEqual(last(talk.a(ack=1, **parts)), [])

    def test_another_end(self):
        for parts in ({"seq": 2}, {"seq": 4}, {"seq": 1, "data": [1]}, {"seq": 1}, {"seq": 99}):
            talk = Talk().open().a(seq=1, ack=1, data=[1, 2], fin=True)
            self.assertEqual(last(talk.a(ack=1, fin=True, **parts)), [OTHER_END])
            self.assertEqual(streams(talk.records)[0].end, 3)

    def test_octets_behind_the_end(self):
        talk = Talk().open().a(seq=1, ack=1, data=[1, 2], fin=True)
        self.assertEqual(last(talk.a(seq=3, ack=1, data=[3])), [OTHER_END])
        # From now on, each segment of this direction that was sent.
        given = judge(talk.a(seq=1, ack=1).a(seq=1, ack=1, data=[1]).b(seq=1, ack=1).records, life=9)
        self.assertEqual([(found.index, found.problem) for found in given],
                         [(at, OTHER_END) for at in range(len(talk.records) - 4, len(talk.records) - 1)])

    def test_an_end_ahead_of_octets_that_were_sent(self):
        talk = Talk().open().a(seq=1, ack=1, data=[1, 2, 3])
        self.assertEqual(last(talk.a(seq=3, ack=1, fin=True)), [OTHER_END])
        self.assertEqual(streams(talk.records)[0].end, 3)
        talk = Talk().open().a(seq=1, ack=1, data=[1, 2, 3])
        self.assertEqual(last(talk.a(seq=4, ack=1, fin=True)), [])

    def test_an_end_far_behind_the_octets(self):
        talk = Talk().open().a(seq=9, ack=1, fin=True)
        self.assertEqual(last(talk), [])
        self.assertEqual(streams(talk.records)[0].end, 9)
        talk.a(seq=1, ack=1, data=[7] * 8)
        self.assertEqual(last(talk), [])
        self.assertEqual(last(talk.a(seq=9, ack=1, data=[7])), [OTHER_END])

    def test_once_in_a_record(self):
        talk = Talk().open().a(seq=1, ack=1, data=[1, 2], fin=True)
        self.assertEqual(last(talk.a(seq=3, ack=1, data=[3], fin=True)), [OTHER_END])

    def test_a_syn_with_an_end(self):
        talk = Talk().a(syn=True, echo=None, fin=True)
        self.assertEqual((last(talk), streams(talk.records)[0].end), ([], 1))


class WindowsTest(unittest.TestCase):
    def test_the_edge(self):
        for size, found in ((1, []), (9, []), (10, []), (11, [BEYOND]), (50, [BEYOND])):
            self.assertEqual(last(Talk().open(window=10).a(seq=1, ack=1, data=[7] * size)), found)

    def test_only_what_is_learned_counts(self):
        talk = Talk().open(window=10).a(seq=1, ack=1, data=[7] * 10)
        self.assertEqual(last(talk.a(seq=1, ack=1, data=[7] * 10)), [])
        self.assertEqual(last(talk.a(seq=10, ack=1, data=[7])), [])
        self.assertEqual(last(talk.a(seq=11, ack=1, fin=True)), [])
        talk = Talk().open(window=10).a(seq=1, ack=1, data=[7] * 10)
        self.assertEqual(last(talk.a(seq=10, ack=1, data=[7, 7])), [BEYOND])
        # What was sent beyond the window and is sent again is learned no more.
        given = judge(talk.a(seq=11, ack=1, data=[7]).records, life=9)
        self.assertEqual(problems(given, len(talk.records) - 1), [])

    def test_what_the_sender_was_told(self):
        talk = Talk().open(window=10).b(seq=1, ack=1, window=20)
        # That is sent, and not delivered.
        self.assertEqual(last(talk.a(seq=1, ack=1, data=[7] * 11)), [BEYOND])
        talk = Talk().open(window=10).both("b", seq=1, ack=1, window=20)
        self.assertEqual(last(talk.a(seq=1, ack=1, data=[7] * 20)), [])
        talk = Talk().open(window=10).both("b", seq=1, ack=1, window=20)
        self.assertEqual(last(talk.a(seq=1, ack=1, data=[7] * 21)), [BEYOND])

    def test_octets_before_the_sender_was_told_anything(self):
        self.assertEqual(last(Talk().a(syn=True, echo=None, data=[7])), [BEYOND])

    def test_units(self):
        for size, found in ((1 + 9 * 4 - 1, []), (1 + 9 * 4, [BEYOND])):
            talk = Talk().open(scale_a=0, scale_b=2, window=9).both("b", seq=1, ack=1, window=9)
            self.assertEqual(last(talk.a(seq=1, ack=1, data=[7] * size)), found)


class AcknowledgementsTest(unittest.TestCase):
    def test_more_than_was_delivered(self):
        for ack, found in ((0, []), (1, []), (2, []), (3, []), (4, [TOO_MUCH]), (99, [TOO_MUCH])):
            talk = Talk().open().both("a", seq=1, ack=1, data=[7, 7]).a(seq=3, ack=1, data=[7])
            self.assertEqual(last(talk.b(seq=1, ack=ack, window=2000)), found)

    def test_what_was_delivered_beyond_a_gap(self):
        talk = Talk().open().a(seq=1, ack=1, data=[7]).both("a", seq=2, ack=1, data=[7, 7])
        self.assertEqual(last(talk.b(seq=1, ack=1)), [])
        self.assertEqual(last(talk.b(seq=1, ack=2)), [TOO_MUCH])
        talk = Talk().open().a(seq=1, ack=1, data=[7]).both("a", seq=2, ack=1, data=[7, 7])
        self.assertEqual(last(talk.b(seq=1, ack=4)), [TOO_MUCH])
        talk = Talk().open().a(seq=1, ack=1, data=[7]).both("a", seq=2, ack=1, data=[7, 7])
        self.assertEqual(last(talk.a("delivered", seq=1, ack=1, data=[7]).b(seq=1, ack=4)), [])

    def test_a_syn_that_was_not_delivered(self):
        talk = Talk().a(syn=True, echo=None).b(syn=True, ack=1)
        self.assertEqual(last(talk), [TOO_MUCH])

    def test_an_end_that_was_delivered(self):
        talk = Talk().open().both("a", seq=1, ack=1, data=[7], fin=True)
        self.assertEqual(last(talk.b(seq=1, ack=3)), [])
        self.assertEqual(last(talk.b(seq=1, ack=4)), [TOO_MUCH])

    def test_segments_that_acknowledge_nothing(self):
        for parts in ({}, {"ack": 99, "echo": None}, {"ack": 99, "echo": 6}, {"ack": -1}):
            self.assertEqual(last(Talk().open().b(seq=1, **parts)), [])
        self.assertEqual(last(Talk().b(syn=True, ack=99)), [])


class WindowsBackTest(unittest.TestCase):
    def test_at_the_edge(self):
        # It has told 1001.
        for ack, window, found in ((1, 1000, []), (1, 999, [WINDOW_BACK]), (1, 0, [WINDOW_BACK]), (1, 1001, []),
                                   (0, 1001, []), (0, 1000, [WINDOW_BACK])):
            self.assertEqual(last(Talk().open(window=1000).b(seq=1, ack=ack, window=window)), found)

    def test_with_a_unit(self):
        for window, found in ((10, []), (9, []), (8, [WINDOW_BACK]), (0, [WINDOW_BACK])):
            talk = Talk().open(scale_a=1, scale_b=3, window=2).both("b", seq=1, ack=1, window=9)
            self.assertEqual(last(talk.b(seq=1, ack=1, window=window)), found)

    def test_less_than_a_unit_is_no_step_back(self):
        # It has told 1 + 9 * 8; with the window 8, an ack of 2 and one more unit tell one octet more than that.
        for ack, found in ((1, [WINDOW_BACK]), (2, []), (3, [])):
            talk = Talk().open(scale_a=1, scale_b=3, window=2).both("a", seq=1, ack=1, data=[7, 7])
            talk.both("b", seq=1, ack=1, window=9)
            self.assertEqual(last(talk.b(seq=1, ack=ack, window=8)), found)

    def test_a_syn_may_tell_less(self):
        talk = Talk().open(window=1000)
        self.assertEqual(last(talk.b(syn=True, ack=1, window=3)), [])
        self.assertEqual([direction.told for direction in streams(talk.records)], [1001, 1001])

    def test_the_greatest_edge_stays(self):
        talk = Talk().open(window=1000).b(seq=1, ack=1, window=10)
        self.assertEqual(last(talk), [WINDOW_BACK])
        given = judge(talk.b(seq=1, ack=1, window=20).records, life=9)
        self.assertEqual(problems(given), [WINDOW_BACK, WINDOW_BACK])

    def test_both_problems_of_one_acknowledgement(self):
        talk = Talk().open(window=1000)
        self.assertEqual(last(talk.b(seq=1, ack=2, window=3)), [TOO_MUCH, WINDOW_BACK])


class OrderTest(unittest.TestCase):
    def test_all_steps_in_one_record(self):
        talk = Talk().open(window=10).a(seq=1, ack=1, data=[1, 2], fin=True)
        talk.a(seq=2, ack=5, data=[9] * 20, fin=True, window=0)
        self.assertEqual(last(talk), [OTHER_OCTETS, OTHER_END, BEYOND, TOO_MUCH, WINDOW_BACK])
        talk = Talk().open(window=10).a(seq=1, ack=1, data=[1, 2], fin=True)
        talk.a(seq=5, ack=5, data=[9] * 20, fin=True, window=0)
        self.assertEqual(last(talk), [BEFORE, OTHER_END, TOO_MUCH, WINDOW_BACK])

    def test_packets_ahead_of_connections(self):
        talk = Talk().at(5).open(window=10).at(3)
        talk.number = 9
        talk.a(seq=4, ack=2, data=[9])
        self.assertEqual(last(talk), ["the tick goes back", "the number is not the next one", BEFORE, TOO_MUCH])
        self.assertEqual([finding.index for finding in judge(talk.records, life=9)], [len(talk.records) - 1] * 4)

    def test_findings_follow_their_records(self):
        talk = Talk().a(seq=1).add(Packet(1, 2, [5])).a("lost", seq=2).a(seq=1)
        self.assertEqual(judge(talk.records, life=9), [
            Finding(0, BEFORE), Finding(1, NO_SEGMENT), Finding(2, "the packet is not under way"), Finding(3, BEFORE)])

    def test_the_findings_of_packets_are_among_them(self):
        for seed in range(20):
            draws = random.Random(seed)
            records = drawn_net(draws, 120).records
            for _ in range(6):
                at = draws.randrange(len(records))
                records[at].tick = max(0, records[at].tick + draws.choice([-9, 9, 30]))
                records[at].number += draws.choice([0, 1])
            both = judge(records, life=12)
            packets = judge_packets(records, life=12)
            self.assertEqual([finding for finding in both if finding in packets], packets)
            self.assertEqual([finding.index for finding in both], sorted(finding.index for finding in both))


class NoSegmentsTest(unittest.TestCase):
    def test_a_packet_that_is_sent(self):
        good = packet(1, 2, Segment(70, 80, seq=1, count=5, syn=True))
        damaged = Packet(1, 2, good.octets[:-1] + [good.octets[-1] ^ 1])
        for given in (Packet(1, 2, []), Packet(1, 2, [0] * 20), damaged, Packet(1, 4, good.octets),
                      Packet(1, 2, good.octets[:19])):
            self.assertEqual(last(Talk().add(given)), [NO_SEGMENT])
        self.assertEqual(last(Talk().add(good)), [])

    def test_other_words(self):
        for word in ("delivered", "lost", "copied", "marked", "expired"):
            talk = Talk().add(Packet(1, 2, [1, 2, 3])).at(6 if word == "expired" else 1)
            talk.add(Packet(1, 2, [1, 2, 3]), word, number=0)
            self.assertEqual(judge(talk.records, life=5), [Finding(0, NO_SEGMENT)])

    def test_resets(self):
        talk = Talk().open()
        self.assertEqual(last(talk.a(seq=77, ack=99, reset=True, data=[1], fin=True)), [])
        self.assertEqual(last(Talk().a(seq=1, reset=True)), [])

    def test_other_words_have_no_problems_of_connections(self):
        for word in ("delivered", "lost", "copied", "marked", "expired"):
            talk = Talk().open(window=10)
            wrong = packet(1, 2, talk.segment_a(seq=5, ack=9, data=[1] * 30, fin=True, window=0))
            self.assertEqual(last(talk.add(wrong, word)), ["the packet is not under way"])


class NetsTest(unittest.TestCase):
    def test_the_records_of_drawn_nets(self):
        for seed in range(12):
            given = drawn_net(random.Random(seed), 250)
            before = frozen(given)
            self.assertEqual(judge(given.records, life=12), [])
            streams(given.records)
            self.assertEqual(frozen(given), before)

    def test_no_records(self):
        self.assertEqual(judge([], life=5), [])


if __name__ == "__main__":
    unittest.main()
