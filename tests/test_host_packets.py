"""Packets that a host takes (points 84 to 88 and 91)."""

import random
import unittest

from tests.hosts import host, host_state, joined, segments, settle
from throughline.errors import DamagedSegment
from throughline.host.packet import Packet
from throughline.wire.encoding import decode, encode
from throughline.wire.segment import Segment

CIRCLE = 4294967296


def packet(segment, *, sender=9, target=1, marked=False):
    return Packet(sender, target, encode(sender, target, segment), marked=marked)


def syn(**parts):
    """A segment with SYN from the port 5000 to the port 80."""
    return Segment(**{"source": 5000, "target": 80, "seq": 1000, "count": 40, "syn": True, "mss": 64,
                      "ranges_known": True, "scale": 3, "window": 700, "stamp": (55, 0), **parts})


def listening(*, backlog=8, **changed):
    one = host(1, **changed)
    one.listen(80, backlog=backlog)
    return one


class PacketsCase(unittest.TestCase):
    def ignored(self, given, *packets):
        before = host_state(given)
        for one in packets:
            self.assertIsNone(given.receive(one))
        self.assertEqual(host_state(given), before)

    def answer(self, given, one):
        """The one segment that is sent for a packet."""
        given.take()
        given.receive(one)
        found = given.take()
        self.assertEqual([(each.sender, each.target, each.marked) for each in found], [(1, one.sender, False)])
        return segments(found)[0]


class OtherPacketsTest(PacketsCase):
    def test_a_packet_for_another_address(self):
        one = listening()
        self.ignored(one, Packet(9, 2, encode(9, 2, syn())), Packet(9, 2, encode(9, 1, syn())),
                     Packet(9, 0, encode(9, 0, syn(target=81))))

    def test_octets_that_are_refused(self):
        def intact(octets):
            """Makes octets intact between the addresses 9 and 1 by their last word."""
            for high in range(256):
                for low in range(256):
                    octets[16:18] = [high, low]
                    given = Packet(9, 1, octets)
                    if (9 + 1 + 6 + len(octets) + sum(256 * octets[k] + (octets[k + 1] if k + 1 < len(octets) else 0)
                                                      for k in range(0, len(octets), 2))) % 65535 == 0:
                        return given
            raise AssertionError("no checksum")
        good = encode(9, 1, syn())
        small = [*good[:12], 64, *good[13:20]]
        rows = [
            ("too short", Packet(9, 1, good[:19])), ("too short", Packet(9, 1, [])),
            ("wrong checksum", Packet(9, 1, [*good[:-1], good[-1] ^ 1])),
            ("wrong checksum", Packet(9, 1, encode(9, 7, syn()))),
            ("wrong header size", intact(small)),
            ("no port", packet(syn(source=0))), ("no port", packet(syn(target=0))),
            ("wrong options", intact([*good[:20], 2, 3, *good[22:]])),
            ("no count", intact([*good[:12], 80, *good[13:20]])),
        ]
        for reason, given in rows:
            with self.subTest(reason):
                with self.assertRaises(DamagedSegment) as caught:
                    decode(9, 1, given.octets)
                self.assertEqual(caught.exception.reason, reason)
                self.ignored(listening(), given)
                self.ignored(host(1), given)
        self.answer(listening(), packet(syn()))

    def test_a_damaged_packet_at_an_open_socket(self):
        one, two = joined()
        two.write(1, [1, 2, 3])
        given, = two.take()
        for at in range(len(given.octets)):
            octets = list(given.octets)
            octets[at] ^= 5
            self.ignored(one, Packet(given.sender, given.target, octets))
        one.receive(given)
        self.assertEqual(one.read(1, 9), [1, 2, 3])

    def test_the_packet_is_not_changed(self):
        one = listening()
        given = packet(syn(), marked=True)
        one.receive(given)
        self.assertEqual(given, packet(syn(), marked=True))


class ListenerTest(PacketsCase):
    def test_a_socket_is_created(self):
        one = listening()
        one.tick(7)
        segment = self.answer(one, packet(syn()))
        socket = one.find(1)
        self.assertEqual((socket.count, socket.port, socket.peer, socket.peer_port, socket.peer_count,
                          socket.peer_first, socket.peer_shift, socket.listened, socket.accepted),
                         (1, 80, 9, 5000, 40, 1000, 3, True, False))
        endpoint = socket.endpoint
        self.assertEqual((endpoint.phase, endpoint.mss, endpoint.selective, endpoint.stamp, endpoint.since,
                          endpoint.control.cwnd), ("syn received", 64, True, 55, 7, 640))
        self.assertEqual(segment, Segment(80, 5000, seq=2654435761, count=1, echo=40, ack=1001, syn=True, window=1000,
                                          mss=100, scale=0, ranges_known=True, stamp=(7, 55)))

    def test_the_agreed_values(self):
        for given, mss in ((None, 100), (0, 8), (7, 8), (8, 8), (99, 99), (100, 100), (101, 100), (65535, 100)):
            one = listening()
            one.receive(packet(syn(mss=given, ranges_known=False, scale=None, stamp=None)))
            endpoint = one.find(1).endpoint
            self.assertEqual((endpoint.mss, endpoint.selective, endpoint.stamp), (mss, False, 0))
            self.assertIsNone(one.find(1).peer_shift)
        one = listening(mss=1000, room=5000)
        one.receive(packet(syn(mss=None)))
        self.assertEqual(one.find(1).endpoint.mss, 536)

    def test_what_is_left_aside(self):
        plain, full = listening(), listening()
        plain.receive(packet(syn()))
        more = syn(data=[1, 2, 3], fin=True, window=5, ranges=[(1, 2)], marked=True, cut=True)
        full.receive(packet(more, marked=True))
        self.assertEqual(host_state(full), host_state(plain))
        endpoint = full.find(1).endpoint
        self.assertEqual((endpoint.receiver.nxt, endpoint.receiver.end, endpoint.sender.edge, endpoint.marked,
                          endpoint.asked, endpoint.ack_at), (1, None, 1, False, False, None))

    def test_the_socket_of_a_segment_is_not_created_twice(self):
        one = listening()
        one.receive(packet(syn()))
        segment = self.answer(one, packet(syn()))
        self.assertEqual((one.sockets, segment.syn, segment.ack), ([1], False, 1001))

    def test_a_second_connection_of_the_same_peer(self):
        one = listening()
        one.receive(packet(syn()))
        one.receive(packet(syn(count=41, seq=5)))
        self.assertEqual([(one.find(count).peer_count, one.find(count).peer_first) for count in one.sockets],
                         [(40, 1000), (41, 5)])

    def test_the_port_of_the_listener_counts(self):
        self.assertTrue(self.answer(listening(), packet(syn(target=81))).reset)
        one = listening()
        one.unlisten(80)
        self.assertTrue(self.answer(one, packet(syn())).reset)

    def test_segments_that_create_no_socket(self):
        for more in ({"syn": False}, {"ack": 5}, {"ack": 0}, {"echo": 7}, {"echo": 0}):
            one = listening()
            self.assertTrue(self.answer(one, packet(syn(**more))).reset)
            self.assertEqual((one.sockets, one.counter), ([], 0))
        self.ignored(listening(), packet(syn(reset=True)))

    def test_the_backlog(self):
        for backlog in (1, 2, 32):
            one = listening(backlog=backlog)
            for port in range(1, backlog + 1):
                one.receive(packet(syn(source=port)))
            self.assertEqual(len(one.sockets), backlog)
            self.ignored(one, packet(syn(source=99)))

    def test_the_usual_backlog(self):
        one = host(1)
        one.listen(80)
        for port in range(1, 30):
            one.receive(packet(syn(source=port)))
        self.assertEqual(one.sockets, list(range(1, 9)))

    def test_the_backlog_counts_the_sockets_of_its_port(self):
        one = listening(backlog=1)
        one.listen(81, backlog=1)
        one.receive(packet(syn()))
        one.receive(packet(syn(target=81)))
        self.assertEqual(one.sockets, [1, 2])
        self.ignored(one, packet(syn(source=6)), packet(syn(source=6, target=81)))

    def test_the_backlog_does_not_count_accepted_sockets(self):
        one, two = host(9), listening(backlog=1)
        one.connect(5000, 1, 80)
        settle(one, two)
        self.ignored(two, packet(syn(source=7)))
        self.assertEqual(two.accept(80), 1)
        two.receive(packet(syn(source=7)))
        self.assertEqual(two.sockets, [1, 2])

    def test_the_backlog_does_not_count_sockets_that_have_ended(self):
        one = listening(backlog=1)
        one.receive(packet(syn()))
        one.abort(1)
        one.receive(packet(syn(source=7)))
        self.assertEqual(one.sockets, [1, 2])

    def test_the_backlog_does_not_count_sockets_that_connect(self):
        one = listening(backlog=1)
        one.connect(80, 3, 80)
        one.receive(packet(syn()))
        self.assertEqual(one.sockets, [1, 2])

    def test_the_backlog_is_that_of_the_present_listener(self):
        one = listening(backlog=1)
        one.receive(packet(syn()))
        one.unlisten(80)
        one.listen(80, backlog=2)
        one.receive(packet(syn(source=7)))
        self.assertEqual(one.sockets, [1, 2])
        self.ignored(one, packet(syn(source=8)))

    def test_32_sockets(self):
        one = listening(backlog=32)
        for port in range(1, 32):
            one.connect(port, 2, 80)
        one.receive(packet(syn()))
        self.assertEqual(len(one.sockets), 32)
        self.ignored(one, packet(syn(source=7)))
        one.abort(3)
        self.ignored(one, packet(syn(source=7)))
        one.release(3)
        one.receive(packet(syn(source=7)))
        self.assertEqual(one.sockets[-1], 33)

    def test_the_counter(self):
        one = listening()
        one.counter = 4294967294
        one.receive(packet(syn()))
        self.assertEqual(one.sockets, [4294967295])
        self.ignored(one, packet(syn(source=7)))


class TakerTest(PacketsCase):
    def test_a_segment_is_for_its_socket(self):
        one, two = joined()
        one.connect(71, 2, 80)
        settle(one, two)
        one.write(2, [5])
        settle(one, two)
        self.assertEqual((two.read(1, 9), two.read(2, 9)), ([], [5]))

    def test_the_first_socket_that_was_created_takes_it(self):
        # Two sockets with one port and one peer: the first has ended, and has never learnt of its peer.
        one = host(1)
        one.connect(80, 9, 5000)
        one.abort(1)
        one.connect(80, 9, 5000)
        one.take()
        for count, taker in ((1, 1), (2, 2)):
            other = one.fork()
            before = {number: other.find(number).endpoint.cause for number in (1, 2)}
            other.receive(packet(syn(echo=count, reset=True)))
            causes = {number: other.find(number).endpoint.cause for number in (1, 2)}
            self.assertEqual(causes, before if taker == 1 else {1: "aborted", 2: "refused"})
        # A SYN without echo is not for the one that has ended.
        one.receive(packet(syn()))
        self.assertEqual([one.find(count).peer_count for count in (1, 2)], [None, 40])

    def test_of_two_sockets_that_know_the_peer(self):
        # By an old SYN, the first socket has learnt of the same peer as the second one.
        one = host(1)
        one.connect(80, 9, 5000)
        one.receive(packet(syn()))
        one.abort(1)
        one.connect(80, 9, 5000)
        one.receive(packet(syn(echo=2, ack=(2 * 2654435761 + 1) % CIRCLE)))
        self.assertEqual([one.find(count).peer_count for count in (1, 2)], [40, 40])
        one.take()
        one.receive(packet(syn()))
        self.assertTrue(one.find(1).endpoint.over is False)
        self.assertEqual([(segment.count, segment.reset) for segment in segments(one.take())], [(1, True)])

    def test_a_packet_changes_at_most_one_socket(self):
        draws = random.Random(91)
        one, two = joined()
        one.connect(71, 2, 80)
        two.connect(90, 1, 91)
        for _ in range(300):
            given = draws.choice([one, two])
            count = draws.choice(given.sockets)
            call = draws.choice(["write", "read", "tick", "finish"])
            if call == "write" and not given.find(count).endpoint.sender.finished:
                if not given.find(count).endpoint.has_ended:
                    given.write(count, [1] * draws.randrange(300))
            elif call == "read":
                given.read(count, draws.randrange(300))
            elif call == "tick":
                given.tick(given.now + draws.randrange(30))
            elif draws.random() < 0.05 and not given.find(count).endpoint.has_ended:
                given.finish(count)
            for each in one.take() + two.take():
                for _ in range(draws.choice([0, 1, 1, 2])):
                    for taker in (one, two):
                        before = {row[0][0]: row for row in host_state(taker)[4]}
                        taker.receive(each)
                        after = {row[0][0]: row for row in host_state(taker)[4]}
                        changed = [number for number in after if after[number] != before.get(number)]
                        self.assertLessEqual(len(changed), 1 if taker.address == each.target else 0)

    def test_a_segment_that_is_dropped(self):
        one = host(1)
        one.connect(80, 9, 5000)
        own = one.find(1).first
        # The peer's first number is not known; the acknowledgement is of nothing that could be sent.
        self.ignored(one, packet(syn(syn=False, echo=1, ack=own + 1)), packet(syn(echo=1, ack=own - 1)))
        one.find(1).endpoint.asked = True
        self.ignored(one, packet(syn(syn=False, echo=1)))
        self.assertEqual(len(one.take()), 1)

    def test_the_mark_of_a_packet(self):
        one, two = joined()
        two.write(1, [1])
        given, = two.take()
        one.receive(given.with_mark())
        one.write(1, [1])
        self.assertEqual([segment.marked for segment in segments(one.take())], [True])

    def test_a_socket_sends_when_it_takes_a_segment(self):
        one, two = joined()
        two.write(1, [1])
        two.write(1, [2])
        first, second = two.take()
        one.receive(first)
        self.assertEqual(one.take(), [])
        one.receive(second)
        self.assertEqual([segment.ack for segment in segments(one.take())], [(2654435761 + 3) % CIRCLE])

    def test_what_a_socket_has_learnt_stays(self):
        one = listening()
        one.receive(packet(syn()))
        one.receive(packet(syn(seq=7, scale=1)))
        socket = one.find(1)
        self.assertEqual((socket.peer_count, socket.peer_first, socket.peer_shift), (40, 1000, 3))


class RefusalTest(PacketsCase):
    def check(self, segment, *, seq, ack, count, given=None):
        found = self.answer(given or host(1), packet(segment))
        self.assertEqual(found, Segment(segment.target, segment.source, seq=seq, ack=ack, count=count,
                                        echo=segment.count, reset=True))

    def test_without_ack_and_echo(self):
        self.check(Segment(5000, 80, seq=1000, count=40), seq=0, ack=1000, count=0)

    def test_with_ack(self):
        self.check(Segment(5000, 80, seq=1000, count=40, ack=77), seq=77, ack=1000, count=0)
        self.check(Segment(5000, 80, seq=1000, count=40, ack=0), seq=0, ack=1000, count=0)

    def test_with_echo(self):
        self.check(Segment(5000, 80, seq=1000, count=40, echo=66), seq=0, ack=1000, count=66)
        self.check(Segment(5000, 80, seq=1000, count=0, echo=0, ack=5), seq=5, ack=1000, count=0)

    def test_with_syn_data_and_end(self):
        for more, size in (({"syn": True}, 1), ({"fin": True}, 1), ({"data": [1, 2, 3]}, 3),
                           ({"syn": True, "fin": True}, 2),
                           ({"syn": True, "data": [1], "fin": True}, 3)):
            self.check(Segment(5000, 80, seq=1000, count=40, ack=77, echo=66, **more), seq=77, ack=1000 + size,
                       count=66)
            self.check(Segment(5000, 80, seq=1000, count=40, **more), seq=0, ack=1000 + size, count=0)

    def test_the_ack_wraps(self):
        self.check(Segment(5000, 80, seq=CIRCLE - 1, count=40, syn=True), seq=0, ack=0, count=0)
        self.check(Segment(5000, 80, seq=CIRCLE - 2, count=40, syn=True, data=[1, 2]), seq=0, ack=1, count=0)

    def test_nothing_else_is_carried(self):
        full = syn(marked=True, cut=True, ack=5, echo=6, ranges=[(1, 2)], data=[1])
        self.check(full, seq=5, ack=1002, count=6)
        found = self.answer(host(1), packet(full, marked=True))
        self.assertEqual((found.marked, found.cut, found.window, found.mss, found.scale, found.ranges_known,
                          found.ranges, found.stamp, found.data), (False, False, 0, None, None, False, [], None, []))

    def test_a_reset(self):
        for more in ({}, {"ack": 5}, {"echo": 6}, {"syn": True}, {"data": [1], "fin": True}):
            self.ignored(host(1), packet(Segment(5000, 80, seq=1000, count=40, reset=True, **more)))
            self.ignored(listening(), packet(Segment(5000, 80, seq=1000, count=40, reset=True, **more)))

    def test_a_socket_of_another_place_does_not_matter(self):
        one = host(1)
        one.connect(80, 9, 5001)
        self.check(syn(), seq=0, ack=1001, count=0, given=one)
        one, _ = joined()
        self.check(Segment(80, 70, seq=1, count=1, echo=1), seq=0, ack=1, count=1, given=one)

    def test_a_released_socket(self):
        one, two = joined()
        one.abort(1)
        one.release(1)
        one.take()
        two.write(1, [1])
        settle(one, two)
        self.assertEqual(two.status(1)["cause"], "reset")

    def test_a_refusal_is_for_the_socket_that_asked(self):
        one, two = host(1), host(2)
        one.connect(70, 2, 80)
        settle(one, two)
        self.assertEqual((one.status(1)["phase"], one.status(1)["cause"]), ("ended", "refused"))
        self.assertEqual((two.sockets, two.counter), ([], 0))


if __name__ == "__main__":
    unittest.main()
