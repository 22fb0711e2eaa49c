"""Calls of a host (points 80, 81, 89 to 91, and the class Host of the interface)."""

import unittest

from tests.endpoints import options
from tests.hosts import host, host_state, joined, segments, settle
from throughline.errors import (
    AlreadyFinished, ConnectionEnded, InvalidAmount, InvalidPort, NotEnded, OwnAddress, SocketInUse, TickInThePast,
    TooManySockets, UnknownSocket)
from throughline.host.host import Host
from throughline.host.packet import Packet
from throughline.host.socket import Socket

KEYS = ["phase", "cause", "port", "peer", "peer_port", "peer_count", "readable", "at_end", "writable", "unacknowledged",
        "window", "timeout"]


class HostCase(unittest.TestCase):
    def refused(self, error, given, name, *rest, **more):
        """The call raises exactly this error, and changes nothing."""
        before = host_state(given)
        with self.assertRaises(error) as caught:
            getattr(given, name)(*rest, **more)
        self.assertIs(caught.exception.__class__, error)
        self.assertEqual(host_state(given), before)


class NewHostTest(HostCase):
    def test_fields(self):
        given = options()
        one = Host(7, given)
        self.assertEqual((one.address, one.options, one.counter, one.now), (7, given, 0, 0))
        self.assertEqual((one.sockets, one.take()), ([], []))

    def test_the_options_are_its_own(self):
        given = options()
        one = Host(7, given)
        given.room = 200
        self.assertEqual(one.options, options())


class ConnectTest(HostCase):
    def test_a_socket(self):
        one = host(1)
        one.tick(5)
        self.assertEqual(one.connect(70, 2, 80), 1)
        socket = one.find(1)
        self.assertIsInstance(socket, Socket)
        self.assertEqual((socket.count, socket.port, socket.peer, socket.peer_port, socket.peer_count, socket.listened,
                          socket.accepted), (1, 70, 2, 80, None, False, False))
        self.assertEqual((socket.endpoint.phase, socket.endpoint.spent_at, socket.endpoint.options),
                         ("syn sent", 5, options()))
        self.assertEqual((one.sockets, one.counter), ([1], 1))

    def test_it_sends_a_syn(self):
        one = host(1)
        one.tick(5)
        one.connect(70, 2, 80)
        packet, = one.take()
        self.assertEqual((packet.sender, packet.target, packet.marked), (1, 2, False))
        segment, = segments([packet])
        self.assertEqual((segment.source, segment.target, segment.seq, segment.count, segment.echo, segment.ack,
                          segment.syn, segment.window, segment.mss, segment.scale, segment.ranges_known, segment.stamp),
                         (70, 80, 2654435761, 1, None, None, True, 1000, 100, 0, True, (5, 0)))

    def test_wrong_ports(self):
        for port in (0, -1, 65536):
            self.refused(InvalidPort, host(1), "connect", port, 2, 80)
            self.refused(InvalidPort, host(1), "connect", 70, 2, port)
            self.refused(InvalidPort, host(1), "connect", port, 1, port)
        one = host(1)
        self.assertEqual([one.connect(1, 2, 65535), one.connect(65535, 2, 1)], [1, 2])

    def test_the_number_of_sockets(self):
        one = host(1)
        for port in range(1, 33):
            self.assertEqual(one.connect(port, 2, 80), port)
        self.refused(TooManySockets, one, "connect", 33, 2, 80)
        self.refused(InvalidPort, one, "connect", 0, 2, 80)
        self.refused(TooManySockets, one, "connect", 80, 1, 80)
        self.refused(TooManySockets, one, "connect", 32, 2, 80)
        one.abort(5)
        self.refused(TooManySockets, one, "connect", 33, 2, 80)
        one.release(5)
        self.assertEqual(one.connect(33, 2, 80), 33)
        self.assertEqual(one.sockets, [*range(1, 5), *range(6, 34)])

    def test_the_counter(self):
        one = host(1)
        one.counter = 4294967294
        self.assertEqual(one.connect(70, 2, 80), 4294967295)
        self.refused(TooManySockets, one, "connect", 71, 2, 80)
        self.refused(TooManySockets, one, "connect", 80, 1, 80)
        one.restart()
        self.refused(TooManySockets, one, "connect", 71, 2, 80)

    def test_the_own_address(self):
        one = host(1)
        self.refused(OwnAddress, one, "connect", 80, 1, 80)
        self.assertEqual(one.connect(79, 1, 80), 1)
        self.assertEqual(one.connect(80, 1, 79), 2)
        self.assertEqual(one.connect(80, 2, 80), 3)

    def test_a_socket_in_use(self):
        one = host(1)
        one.connect(70, 2, 80)
        self.refused(SocketInUse, one, "connect", 70, 2, 80)
        for place in ((71, 2, 80), (70, 3, 80), (70, 2, 81), (80, 2, 70)):
            one.connect(*place)

    def test_a_socket_that_a_listener_created_is_in_use_too(self):
        _, two = joined()
        self.refused(SocketInUse, two, "connect", 80, 1, 70)
        self.assertEqual(two.connect(80, 1, 71), 2)

    def test_a_socket_that_has_ended(self):
        one = host(1)
        one.connect(70, 2, 80)
        one.abort(1)
        self.assertEqual(one.connect(70, 2, 80), 2)
        self.assertEqual(one.sockets, [1, 2])
        self.refused(SocketInUse, one, "connect", 70, 2, 80)

    def test_a_listener_has_no_effect(self):
        one = host(1)
        one.listen(70)
        self.assertEqual(one.connect(70, 2, 80), 1)
        self.refused(SocketInUse, one, "connect", 70, 2, 80)


class ListenTest(HostCase):
    def test_listening(self):
        one = host(1)
        self.assertIsNone(one.listen(80))
        self.refused(SocketInUse, one, "listen", 80)
        self.refused(SocketInUse, one, "listen", 80, backlog=3)
        one.listen(81, backlog=1)
        self.assertEqual(one.sockets, [])

    def test_wrong_ports(self):
        for port in (0, -1, 65536):
            self.refused(InvalidPort, host(1), "listen", port)
            self.refused(InvalidPort, host(1), "listen", port, backlog=0)
        one = host(1)
        one.listen(1)
        one.listen(65535)

    def test_wrong_backlogs(self):
        one = host(1)
        one.listen(80)
        for backlog in (0, -1, 33):
            self.refused(InvalidAmount, one, "listen", 81, backlog=backlog)
            self.refused(InvalidAmount, one, "listen", 80, backlog=backlog)
        one.listen(81, backlog=1)
        one.listen(82, backlog=32)

    def test_the_port_of_a_socket(self):
        one = host(1)
        one.connect(70, 2, 80)
        self.assertIsNone(one.listen(70))

    def test_unlisten(self):
        one = host(1)
        self.assertIs(one.unlisten(80), False)
        one.listen(80)
        one.listen(81)
        self.assertIs(one.unlisten(80), True)
        self.assertIs(one.unlisten(80), False)
        self.assertIs(one.unlisten(81), True)
        one.listen(80)
        for port in (0, 65536):
            self.assertIs(one.unlisten(port), False)


class AcceptTest(HostCase):
    def connections(self, count):
        one, two = host(1), host(2)
        two.listen(80)
        two.listen(81)
        for port in range(1, count + 1):
            one.connect(port, 2, 80)
        settle(one, two)
        return one, two

    def test_each_socket_once(self):
        _, two = self.connections(3)
        self.assertEqual([two.accept(80) for _ in range(5)], [1, 2, 3, None, None])
        self.assertTrue(all(two.find(count).accepted for count in (1, 2, 3)))

    def test_another_port(self):
        _, two = self.connections(1)
        self.assertEqual([two.accept(port) for port in (81, 79, 0, 70000)], [None] * 4)
        self.assertEqual(two.accept(80), 1)

    def test_only_open_ones(self):
        one, two = host(1), host(2)
        two.listen(80)
        one.connect(1, 2, 80)
        for packet in one.take():
            two.receive(packet)
        self.assertEqual((two.status(1)["phase"], two.accept(80)), ("syn received", None))
        settle(one, two)
        self.assertEqual((two.status(1)["phase"], two.accept(80)), ("established", 1))

    def test_not_one_that_has_ended(self):
        _, two = self.connections(2)
        two.abort(1)
        self.assertEqual([two.accept(80), two.accept(80)], [2, None])

    def test_one_that_the_peer_has_finished(self):
        one, two = self.connections(1)
        one.finish(1)
        settle(one, two)
        self.assertEqual((two.status(1)["phase"], two.accept(80)), ("close wait", 1))

    def test_not_one_that_was_connected(self):
        one, _ = self.connections(1)
        self.assertEqual((one.status(1)["phase"], one.accept(1)), ("established", None))

    def test_behind_unlisten(self):
        _, two = self.connections(1)
        two.unlisten(80)
        self.assertEqual([two.accept(80), two.accept(80)], [1, None])


class WriteAndReadTest(HostCase):
    def test_octets_go_both_ways(self):
        one, two = joined()
        self.assertEqual(one.write(1, [1, 2, 3]), 3)
        self.assertEqual(two.write(1, [4]), 1)
        settle(one, two)
        self.assertEqual((one.read(1, 9), two.read(1, 2), two.read(1, 9)), ([4], [1, 2], [3]))

    def test_what_does_not_fit(self):
        one, _ = joined()
        self.assertEqual(one.write(1, [1] * 1500), 1000)
        self.assertEqual(one.write(1, [1]), 0)

    def test_a_write_sends(self):
        one, _ = joined()
        one.write(1, [1, 2, 3])
        self.assertEqual([segment.data for segment in segments(one.take())], [[1, 2, 3]])

    def test_a_write_that_takes_nothing_sends(self):
        one, _ = joined()
        one.find(1).endpoint.asked = True
        self.assertEqual(one.write(1, []), 0)
        self.assertEqual(len(one.take()), 1)

    def test_a_read_sends(self):
        one, two = joined()
        for _ in range(4):
            one.write(1, [1] * 100)
        settle(one, two)
        two.tick(10)
        two.take()
        two.read(1, 99)
        self.assertEqual(two.take(), [])
        two.read(1, 1)
        self.assertEqual([segment.window for segment in segments(two.take())], [700])

    def test_wrong_writes(self):
        one, two = joined()
        for count in (0, 2, -1):
            self.refused(UnknownSocket, one, "write", count, [1])
        one.finish(1)
        self.refused(AlreadyFinished, one, "write", 1, [1])
        self.refused(AlreadyFinished, one, "write", 1, [])
        one.abort(1)
        self.refused(ConnectionEnded, one, "write", 1, [1])
        two.abort(1)
        self.refused(ConnectionEnded, two, "write", 1, [1])

    def test_wrong_reads(self):
        one, _ = joined()
        for count in (0, 2, -1):
            self.refused(UnknownSocket, one, "read", count, 5)
            self.refused(UnknownSocket, one, "read", count, -1)
        self.refused(InvalidAmount, one, "read", 1, -1)
        self.assertEqual(one.read(1, 0), [])

    def test_a_read_of_one_that_has_ended(self):
        one, two = joined()
        one.write(1, [1, 2, 3])
        settle(one, two)
        two.abort(1)
        self.assertEqual(two.read(1, 2), [1, 2])
        self.refused(InvalidAmount, two, "read", 1, -1)

    def test_the_octets_are_not_kept(self):
        one, two = joined()
        octets = [1, 2, 3]
        one.write(1, octets)
        self.assertEqual(octets, [1, 2, 3])
        octets[0] = 9
        settle(one, two)
        found = two.read(1, 2)
        found.append(7)
        self.assertEqual((found, two.read(1, 9)), ([1, 2, 7], [3]))


class FinishAndAbortTest(HostCase):
    def test_finish(self):
        one, _ = joined()
        self.assertIs(one.finish(1), True)
        segment, = segments(one.take())
        self.assertTrue(segment.fin)
        self.assertIs(one.finish(1), False)
        self.assertEqual(one.take(), [])

    def test_a_finish_that_returns_false_sends_nothing(self):
        one, _ = joined()
        one.finish(1)
        one.take()
        one.find(1).endpoint.asked = True
        self.assertIs(one.finish(1), False)
        self.assertEqual(one.take(), [])

    def test_wrong_finishes(self):
        one, _ = joined()
        for count in (0, 2, -1):
            self.refused(UnknownSocket, one, "finish", count)
        one.abort(1)
        self.refused(ConnectionEnded, one, "finish", 1)
        other, _ = joined()
        other.finish(1)
        other.abort(1)
        self.refused(ConnectionEnded, other, "finish", 1)

    def test_abort(self):
        one, _ = joined()
        self.assertIs(one.abort(1), True)
        segment, = segments(one.take())
        self.assertTrue(segment.reset)
        self.assertIs(one.abort(1), False)
        self.assertEqual((one.take(), one.status(1)["cause"]), ([], "aborted"))

    def test_an_abort_that_returns_false_sends_nothing(self):
        one, _ = joined()
        one.abort(1)
        one.take()
        one.find(1).endpoint.over = True
        self.assertIs(one.abort(1), False)
        self.assertEqual(one.take(), [])

    def test_an_abort_before_an_answer(self):
        one = host(1)
        one.connect(70, 2, 80)
        one.take()
        self.assertIs(one.abort(1), True)
        self.assertEqual(one.take(), [])

    def test_wrong_aborts(self):
        for count in (0, 2, -1):
            self.refused(UnknownSocket, joined()[0], "abort", count)


class ReleaseTest(HostCase):
    def test_release(self):
        one, _ = joined()
        one.connect(71, 2, 80)
        one.abort(1)
        self.assertIsNone(one.release(1))
        self.assertEqual((one.sockets, one.find(1), one.counter), ([2], None, 2))
        self.refused(UnknownSocket, one, "release", 1)
        self.refused(UnknownSocket, one, "read", 1, 1)

    def test_one_that_has_not_ended(self):
        one, _ = joined()
        self.refused(NotEnded, one, "release", 1)
        one.finish(1)
        self.refused(NotEnded, one, "release", 1)
        for count in (0, 2, -1):
            self.refused(UnknownSocket, one, "release", count)

    def test_a_release_sends_nothing(self):
        one, _ = joined()
        one.abort(1)
        one.take()
        one.find(1).endpoint.over = True
        one.release(1)
        self.assertEqual(one.take(), [])


class TickTest(HostCase):
    def test_the_tick(self):
        one = host(1)
        self.assertIsNone(one.tick(0))
        one.tick(7)
        one.tick(7)
        self.assertEqual(one.now, 7)
        self.refused(TickInThePast, one, "tick", 6)
        self.refused(TickInThePast, one, "tick", -1)

    def test_all_sockets_act_and_send_in_their_order(self):
        one = host(1)
        for port in (9, 5, 7):
            one.connect(port, 2, 80)
        one.take()
        one.tick(39)
        self.assertEqual(one.take(), [])
        one.tick(40)
        self.assertEqual([(segment.source, segment.count, segment.syn, segment.stamp) for segment in
                          segments(one.take())], [(9, 1, True, (40, 0)), (5, 2, True, (40, 0)), (7, 3, True, (40, 0))])

    def test_one_that_gives_up_at_a_tick_sends_nothing(self):
        one = host(1)
        one.connect(9, 2, 80)
        one.take()
        one.tick(240)
        self.assertEqual((one.status(1)["cause"], one.take()), ("gave up", []))

    def test_sockets_send_at_each_tick(self):
        one, two = joined(ack_delay=4)
        one.write(1, [1])
        settle(one, two)
        found = []
        for now in range(1, 7):
            two.tick(now)
            found.append(len(two.take()))
        self.assertEqual(found, [0, 0, 0, 1, 0, 0])

    def test_a_tick_at_which_packets_were_not_taken(self):
        one = host(1)
        one.connect(9, 2, 80)
        one.tick(40)
        self.assertEqual([segment.stamp for segment in segments(one.take())], [(0, 0), (40, 0)])


class TakeTest(HostCase):
    def test_packets_come_in_the_order_in_which_they_were_sent(self):
        one = host(1)
        for port in (9, 5, 7):
            one.connect(port, port, 80)
        self.assertEqual([packet.target for packet in one.take()], [9, 5, 7])
        self.assertEqual(one.take(), [])

    def test_the_list_is_new(self):
        one = host(1)
        one.connect(9, 2, 80)
        found = one.take()
        one.connect(8, 2, 80)
        self.assertEqual(len(found), 1)
        found.clear()
        self.assertEqual(len(one.take()), 1)


class RestartTest(HostCase):
    def test_what_it_forgets_and_what_it_keeps(self):
        one = host(1)
        one.tick(30)
        one.listen(80)
        one.connect(70, 2, 80)
        one.connect(71, 2, 80)
        self.assertIsNone(one.restart())
        self.assertEqual((one.sockets, one.find(1), one.take(), one.unlisten(80)), ([], None, [], False))
        self.assertEqual((one.address, one.options, one.counter, one.now), (1, options(), 2, 30))
        self.refused(TickInThePast, one, "tick", 29)

    def test_a_count_is_not_given_again(self):
        one = host(1)
        found = []
        for _ in range(5):
            found += [one.connect(port, 2, 80) for port in (70, 71)]
            one.abort(found[-1])
            one.release(found[-1])
            found.append(one.connect(72, 2, 80))
            one.restart()
        self.assertEqual(found, list(range(1, 16)))

    def test_a_listener_may_be_created_again(self):
        one = host(1)
        one.listen(80)
        one.restart()
        self.assertIsNone(one.listen(80))


class PeerTest(HostCase):
    def test_peer_of(self):
        one, two = host(1), host(2)
        two.counter = 40
        two.listen(80)
        one.connect(70, 2, 80)
        self.assertIsNone(one.peer_of(1))
        settle(one, two)
        self.assertEqual((one.peer_of(1), two.peer_of(41)), ((2, 80, 41), (1, 70, 1)))
        one.abort(1)
        self.assertEqual(one.peer_of(1), (2, 80, 41))
        for count in (0, 2, 41):
            self.refused(UnknownSocket, one, "peer_of", count)

    def test_find(self):
        one, _ = joined()
        self.assertEqual((one.find(1).port, one.find(0), one.find(2)), (70, None, None))


class StatusTest(HostCase):
    def check(self, given, count, **expected):
        found = given.status(count)
        self.assertEqual(list(found), KEYS)
        for name, value in expected.items():
            self.assertEqual((name, found[name]), (name, value))
        self.assertIs(found["at_end"].__class__, bool)

    def test_all_keys(self):
        one = host(1)
        one.connect(70, 2, 80)
        self.check(one, 1, phase="syn sent", cause=None, port=70, peer=2, peer_port=80, peer_count=None, readable=0,
                   at_end=False, writable=1000, unacknowledged=1, window=1000, timeout=40)

    def test_an_open_one(self):
        one, two = joined()
        one.write(1, [1] * 30)
        self.check(one, 1, phase="established", peer_count=1, writable=970, unacknowledged=30)
        settle(one, two)
        self.check(two, 1, phase="established", readable=30, port=80, peer=1, peer_port=70, peer_count=1)
        two.read(1, 9)
        self.check(two, 1, readable=21, at_end=False)

    def test_in_each_phase(self):
        one, two = joined()
        one.finish(1)
        self.check(one, 1, phase="fin wait 1", writable=0, unacknowledged=1)
        settle(one, two)
        self.check(one, 1, phase="fin wait 2", writable=0, unacknowledged=0, at_end=False)
        self.check(two, 1, phase="close wait", writable=1000, at_end=True)
        two.finish(1)
        self.check(two, 1, phase="last ack", writable=0, unacknowledged=1)
        settle(one, two)
        self.check(one, 1, phase="time wait", cause=None, at_end=True)
        self.check(two, 1, phase="ended", cause="done", writable=0, at_end=True)

    def test_both_finish_at_once(self):
        one, two = joined()
        one.finish(1)
        two.finish(1)
        for packet in two.take():
            one.receive(packet)
        self.check(one, 1, phase="closing", writable=0)

    def test_syn_received(self):
        one, two = host(1), host(2)
        two.listen(80)
        one.connect(70, 2, 80)
        for packet in one.take():
            two.receive(packet)
        self.check(two, 1, phase="syn received", peer_count=1, unacknowledged=1, writable=1000)

    def test_writable_of_one_that_has_ended(self):
        one, two = joined()
        one.write(1, [1] * 30)
        one.abort(1)
        self.assertEqual(one.find(1).endpoint.sender.free, 970)
        self.check(one, 1, phase="ended", cause="aborted", writable=0, unacknowledged=30)
        two.finish(1)
        self.check(two, 1, writable=0)

    def test_the_window_and_the_timeout(self):
        one, _ = joined()
        one.find(1).endpoint.control.cwnd = 77
        one.find(1).endpoint.trip.rto = 66
        self.check(one, 1, window=77, timeout=66)

    def test_unknown_sockets(self):
        one, _ = joined()
        for count in (0, 2, -1):
            self.refused(UnknownSocket, one, "status", count)

    def test_the_dict_is_new(self):
        one, _ = joined()
        one.status(1)["phase"] = "x"
        self.check(one, 1, phase="established")


class SendingTest(HostCase):
    def test_a_call_that_raises_sends_nothing(self):
        one, _ = joined()
        one.find(1).endpoint.asked = True
        for name, rest in (("read", (1, -1)), ("write", (2, [1])), ("release", (1,)), ("connect", (0, 1, 1)),
                           ("status", (2,)), ("peer_of", (2,))):
            with self.assertRaises(ValueError):
                getattr(one, name)(*rest)
        one.status(1)
        one.peer_of(1)
        one.accept(70)
        one.find(1)
        self.assertEqual(one.take(), [])
        one.read(1, 0)
        self.assertEqual(len(one.take()), 1)

    def test_only_the_socket_of_the_call_sends(self):
        one, two = joined()
        one.connect(71, 2, 80)
        settle(one, two)
        for count in (1, 2):
            one.find(count).endpoint.asked = True
        one.write(2, [])
        self.assertEqual([segment.source for segment in segments(one.take())], [71])


class ForkTest(HostCase):
    def test_an_equal_state(self):
        one, two = joined()
        one.tick(7)
        one.write(1, [1, 2, 3])
        one.listen(9, backlog=3)
        for given in (one, two, host(5)):
            other = given.fork()
            self.assertEqual(host_state(other), host_state(given))
            self.assertEqual(other.take(), given.fork().take())

    def test_later_calls_change_only_one(self):
        for swap in (False, True):
            one, two = joined()
            one.write(1, [1, 2, 3])
            two.write(1, [4, 5])
            packets = two.take()
            given, other = (one.fork(), one) if swap else (one, one.fork())
            before = host_state(other)
            given.listen(9)
            given.receive(packets[0])
            given.read(1, 1)
            given.write(1, [7])
            given.tick(50)
            given.connect(71, 2, 80)
            given.finish(1)
            given.abort(1)
            given.release(1)
            given.take()[0].octets.clear()
            self.assertEqual(host_state(other), before)
            given.restart()
            self.assertEqual(host_state(other), before)

    def test_packets_of_a_fork_are_its_own(self):
        one, _ = joined()
        one.write(1, [1, 2, 3])
        other = one.fork()
        first = one.take()[0]
        kept = Packet(first.sender, first.target, first.octets)
        first.octets.clear()
        self.assertEqual(other.take(), [kept])

    def test_a_fork_goes_on_in_the_same_way(self):
        one, _ = joined()
        one.write(1, [1, 2, 3])
        one.listen(9, backlog=2)
        one.connect(75, 2, 80)
        other = one.fork()
        for given in (one, other):
            given.tick(60)
            given.write(1, [9] * 300)
        self.assertEqual(one.take(), other.take())
        self.assertEqual((one.connect(80, 2, 9), other.connect(80, 2, 9)), (3, 3))
        self.assertEqual([given.unlisten(9) for given in (one, other)], [True, True])
        self.assertEqual(host_state(one), host_state(other))


if __name__ == "__main__":
    unittest.main()
