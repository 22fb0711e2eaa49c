"""Nets: their members, their deeds, and what a deed that raises leaves as it was (points 92 to 95)."""

import unittest

from tests.endpoints import options
from tests.frozen import frozen
from tests.nets import deliver_all, flights, joined_net, net, segment_of, words
from throughline.errors import (
    AlreadyFinished, ConnectionEnded, InvalidAmount, InvalidDeed, InvalidOptions, InvalidPort, NotEnded, OwnAddress,
    SocketInUse, TickInThePast, UnknownFlight, UnknownHost, UnknownSocket)
from throughline.host.packet import Packet
from throughline.net.net import Net


class MembersTest(unittest.TestCase):
    def test_the_fields_at_the_beginning(self):
        given = Net([(7, options(life=33)), (0, options(life=33, mss=50))])
        self.assertEqual([host.address for host in given.hosts], [7, 0])
        self.assertEqual([host.options for host in given.hosts], [options(life=33), options(life=33, mss=50)])
        self.assertEqual([host.now for host in given.hosts], [0, 0])
        self.assertIsInstance(given.hosts, list)
        self.assertEqual((given.life, given.now, given.records, len(given.flights), list(given.ledger)),
                         (33, 0, [], 0, []))
        self.assertEqual((given.flights.next_number, list(given.history())), (0, []))

    def test_the_most_hosts(self):
        self.assertEqual((Net.MOST_HOSTS, net(1).MOST_HOSTS), (8, 8))
        self.assertRaises(InvalidOptions, Net, [])
        for count in range(1, 9):
            self.assertEqual(len(net(count).hosts), count)
        for count in (9, 10, 20):
            self.assertRaises(InvalidOptions, net, count)

    def test_equal_addresses(self):
        self.assertRaises(InvalidOptions, Net, [(1, options()), (1, options())])
        self.assertRaises(InvalidOptions, Net, [(1, options()), (2, options()), (3, options()), (2, options())])

    def test_different_lives(self):
        self.assertRaises(InvalidOptions, Net, [(1, options(life=50)), (2, options(life=51))])
        self.assertRaises(InvalidOptions, Net, [(1, options(life=50)), (2, options(life=50)), (3, options(life=49))])
        self.assertEqual(Net([(1, options(life=50)), (2, options(life=50, tries=9))]).life, 50)

    def test_the_members_are_left_alone(self):
        members = [(1, options()), (2, options())]
        given = Net(members)
        members[0][1].mss = 8
        members.append((3, options()))
        self.assertEqual((len(given.hosts), given.hosts[0].options), (2, options()))
        given.hosts.pop()
        self.assertEqual(len(members), 3)

    def test_the_life_counts(self):
        given = net(life=3)
        given.do(("connect", 0, 70, 2, 80))
        for _ in range(3):
            given.do(("tick",))
        self.assertEqual(flights(given), [(0, 0)])
        given.do(("tick",))
        self.assertEqual(flights(given), [])


class CallsTest(unittest.TestCase):
    def test_each_call_and_what_it_returns(self):
        given = net(3)
        self.assertIsNone(given.do(("listen", 1, 80, 3)))
        self.assertIs(given.do(("unlisten", 1, 81)), False)
        self.assertEqual(given.do(("connect", 0, 70, 2, 80)), 1)
        self.assertEqual(given.do(("connect", 0, 71, 2, 80)), 2)
        self.assertIsNone(given.do(("accept", 1, 80)))
        deliver_all(given)
        self.assertEqual([given.do(("accept", 1, 80)) for _ in range(3)], [1, 2, None])
        self.assertIs(given.do(("unlisten", 1, 80)), True)
        self.assertEqual(given.do(("write", 0, 1, [1, 2, 3])), 3)
        self.assertEqual(given.do(("write", 0, 1, [])), 0)
        self.assertEqual(given.do(("write", 1, 2, [9] * 1500)), 1000)
        deliver_all(given)
        self.assertEqual(given.do(("read", 1, 1, 2)), [1, 2])
        self.assertEqual(given.do(("read", 1, 1, 9)), [3])
        self.assertEqual(given.do(("read", 1, 1, 9)), [])
        self.assertIs(given.do(("finish", 0, 1)), True)
        self.assertIs(given.do(("finish", 0, 1)), False)
        self.assertIs(given.do(("abort", 0, 2)), True)
        self.assertIs(given.do(("abort", 0, 2)), False)
        self.assertIsNone(given.do(("release", 0, 2)))
        self.assertEqual(given.hosts[0].sockets, [1])
        self.assertIsNone(given.do(("restart", 0)))
        self.assertEqual((given.hosts[0].sockets, given.hosts[0].counter), ([], 2))

    def test_the_backlog_is_the_one_of_the_deed(self):
        given = net()
        given.do(("listen", 1, 80, 1))
        given.do(("connect", 0, 70, 2, 80))
        given.do(("connect", 0, 71, 2, 80))
        deliver_all(given)
        self.assertEqual(given.hosts[1].sockets, [1])

    def test_a_call_goes_to_the_host_with_the_index(self):
        given = net(3)
        given.do(("connect", 2, 70, 1, 80))
        self.assertEqual([host.sockets for host in given.hosts], [[], [], [1]])
        self.assertEqual([(flight.packet.sender, flight.packet.target) for flight in given.flights], [(3, 1)])

    def test_what_a_call_hands_out_is_sent_at_once(self):
        given = joined_net(pace=250)
        sent = given.flights.next_number
        given.do(("tick",))
        given.do(("write", 0, 1, [1] * 250))
        self.assertEqual(flights(given), [(sent, 1), (sent + 1, 1), (sent + 2, 1)])
        self.assertEqual(words(given, -3), [(1, sent, "sent"), (1, sent + 1, "sent"), (1, sent + 2, "sent")])
        self.assertEqual([record.packet for record in given.records[-3:]], [flight.packet for flight in given.flights])
        self.assertEqual([len(segment_of(flight.packet).data) for flight in given.flights], [100, 100, 50])
        self.assertEqual(given.hosts[0].take(), [])

    def test_a_read_may_send(self):
        given = joined_net(room=200)
        given.do(("write", 0, 1, [1] * 200))
        deliver_all(given)
        self.assertEqual(given.do(("read", 1, 1, 200)), [1] * 200)
        self.assertEqual([flight.packet.sender for flight in given.flights], [2])

    def test_numbers_go_on_without_gaps(self):
        given = joined_net()
        for k in range(5):
            given.do(("write", k % 2, 1, [k]))
            given.do(("tick",))
        sent = [record.number for record in given.records if record.word == "sent"]
        self.assertEqual(sent, list(range(len(sent))))
        self.assertEqual(given.flights.next_number, len(sent))


class FlightDeedsTest(unittest.TestCase):
    def waiting(self):
        """A net with four flights under way, of the host 0."""
        given = joined_net(3)
        start = given.flights.next_number
        for octet in range(4):
            given.do(("write", 0, 1, [octet]))
        return given, start

    def test_delivering(self):
        given, start = self.waiting()
        self.assertIsNone(given.do(("deliver", 2)))
        # The octet arrives out of order, so that an acknowledgement is sent at once.
        self.assertEqual([number - start for number, _ in flights(given)], [0, 1, 3, 4])
        self.assertEqual(words(given, -2), [(0, start + 2, "delivered"), (0, start + 4, "sent")])
        self.assertEqual(given.do(("read", 1, 1, 9)), [])
        given.do(("deliver", 0))
        given.do(("deliver", 0))
        self.assertEqual(given.do(("read", 1, 1, 9)), [0, 1, 2])

    def test_losing(self):
        given, start = self.waiting()
        self.assertIsNone(given.do(("lose", 1)))
        self.assertEqual([number - start for number, _ in flights(given)], [0, 2, 3])
        self.assertEqual(words(given, -1), [(0, start + 1, "lost")])
        self.assertEqual(segment_of(given.records[-1].packet).data, [1])

    def test_copying(self):
        given, start = self.waiting()
        given.do(("tick",))
        self.assertIsNone(given.do(("copy", 1)))
        self.assertEqual([(number - start, birth) for number, birth in flights(given)],
                         [(0, 0), (1, 0), (2, 0), (3, 0), (1, 0)])
        self.assertEqual(given.flights.at(4), given.flights.at(1))
        self.assertEqual(words(given, -1), [(1, start + 1, "copied")])
        self.assertEqual(given.flights.next_number, start + 4)
        given.do(("deliver", 4))
        self.assertEqual(words(given, -2)[0], (1, start + 1, "delivered"))

    def test_marking(self):
        given, start = self.waiting()
        packet = given.flights.at(1).packet
        self.assertIsNone(given.do(("mark", 1)))
        self.assertEqual([number - start for number, _ in flights(given)], [0, 1, 2, 3])
        self.assertEqual([flight.packet.marked for flight in given.flights], [False, True, False, False])
        self.assertEqual(words(given, -1), [(0, start + 1, "marked")])
        self.assertEqual(given.records[-1].packet, packet.with_mark())
        self.assertIs(packet.marked, False)
        given.do(("deliver", 0))
        self.assertIs(given.hosts[1].find(1).endpoint.marked, False)
        given.do(("deliver", 0))
        self.assertIs(given.hosts[1].find(1).endpoint.marked, True)

    def test_a_packet_for_an_address_that_no_host_has(self):
        given = net()
        given.do(("connect", 0, 70, 9, 80))
        given.do(("tick",))
        before = frozen(given.hosts)
        self.assertIsNone(given.do(("deliver", 0)))
        self.assertEqual(words(given), [(0, 0, "sent"), (1, 0, "lost")])
        self.assertEqual((len(given.flights), frozen(given.hosts)), (0, before))
        self.assertEqual(given.records[1].packet, given.records[0].packet)

    def test_a_packet_of_a_host_to_itself(self):
        given = net(1)
        given.do(("listen", 0, 80, 8))
        given.do(("connect", 0, 70, 1, 80))
        deliver_all(given)
        self.assertEqual((given.do(("accept", 0, 80)), given.other_end(0, 1), given.other_end(0, 2)),
                         (2, (0, 2), (0, 1)))

    def test_what_a_delivery_sends_stands_behind_all_others(self):
        given, start = self.waiting()
        given.do(("write", 1, 1, [9]))
        given.do(("deliver", 1))
        self.assertEqual([(flight.number - start, flight.packet.sender) for flight in given.flights],
                         [(0, 1), (2, 1), (3, 1), (4, 2), (5, 2)])

    def test_only_the_target_takes_a_packet(self):
        given = net(3)
        given.do(("listen", 1, 80, 8))
        given.do(("listen", 2, 80, 8))
        given.do(("connect", 0, 70, 3, 80))
        deliver_all(given)
        self.assertEqual([host.sockets for host in given.hosts], [[1], [], [1]])


class TickTest(unittest.TestCase):
    def test_the_order_of_what_hosts_send(self):
        given = net(3)
        for index in (2, 0, 1):
            given.do(("connect", index, 70, 9, 80))
            given.do(("connect", index, 71, 9, 80))
        while len(given.flights) > 0:
            given.do(("lose", 0))
        start = len(given.records)
        while given.now < 40:
            given.do(("tick",))
        # Each socket repeats its SYN at the tick 40, and the hosts are told in the order of their indexes.
        sent = [record.packet for record in given.records[start:] if record.word == "sent"]
        self.assertEqual([(packet.sender, segment_of(packet).source) for packet in sent],
                         [(1, 70), (1, 71), (2, 70), (2, 71), (3, 70), (3, 71)])
        self.assertEqual([birth for _, birth in flights(given)], [40] * 6)

    def test_hosts_are_told_the_tick(self):
        given = net(3)
        self.assertIsNone(given.do(("tick",)))
        self.assertIsNone(given.do(("tick",)))
        self.assertEqual((given.now, [host.now for host in given.hosts]), (2, [2, 2, 2]))

    def test_what_expires(self):
        given = net(life=5)
        given.do(("connect", 0, 70, 9, 80))
        given.do(("tick",))
        given.do(("connect", 0, 71, 9, 80))
        given.do(("copy", 0))
        given.do(("mark", 0))
        for _ in range(4):
            given.do(("tick",))
        self.assertEqual((given.now, flights(given)), (5, [(0, 0), (1, 1), (0, 0)]))
        given.do(("tick",))
        self.assertEqual((given.now, flights(given)), (6, [(1, 1)]))
        self.assertEqual(words(given, -2), [(6, 0, "expired"), (6, 0, "expired")])
        self.assertEqual([record.packet.marked for record in given.records[-2:]], [True, False])
        given.do(("tick",))
        self.assertEqual((given.now, flights(given), words(given, -1)), (7, [], [(7, 1, "expired")]))

    def test_the_order_of_what_expires_at_one_tick(self):
        given = net(3, life=2)
        for index in (1, 0, 2):
            given.do(("connect", index, 70, 9, 80))
        given.do(("copy", 1))
        given.do(("lose", 0))
        for _ in range(3):
            given.do(("tick",))
        expired = [record for record in given.records if record.word == "expired"]
        self.assertEqual([(record.tick, record.number) for record in expired], [(3, 1), (3, 2), (3, 1)])
        self.assertEqual([record.packet.sender for record in expired], [1, 3, 1])

    def test_what_expires_is_recorded_ahead_of_what_is_sent(self):
        given = net(life=39)
        given.do(("connect", 0, 70, 9, 80))
        for _ in range(40):
            given.do(("tick",))
        self.assertEqual(words(given), [(0, 0, "sent"), (40, 0, "expired"), (40, 1, "sent")])


class RefusalsTest(unittest.TestCase):
    def refuse(self, given, deed, error):
        """The deed raises this very error, and changes nothing."""
        before = frozen(given)
        with self.subTest(deed), self.assertRaises(error) as caught:
            given.do(deed)
        self.assertIs(caught.exception.__class__, error)
        self.assertEqual(frozen(given), before)

    def test_no_deeds(self):
        given = joined_net()
        given.do(("write", 0, 1, [1]))
        for deed in ((), ("jump",), ("tick", 1), ("deliver",), ("deliver", 0, 0), ("restart",), ("restart", 0, 0),
                     ("write", 0, 1), ("read", 0, 1, 1, 1), ("connect", 0, 70, 2), ("listen", 0, 80), ("sent", 0)):
            self.refuse(given, deed, InvalidDeed)

    def test_hosts_that_are_not_there(self):
        given = joined_net(3)
        for index in (-1, -3, 3, 4, 99):
            for deed in (("connect", index, 70, 2, 80), ("listen", index, 80, 8), ("unlisten", index, 80),
                         ("accept", index, 80), ("write", index, 1, [1]), ("read", index, 1, 1), ("finish", index, 1),
                         ("abort", index, 1), ("release", index, 1), ("restart", index)):
                self.refuse(given, deed, UnknownHost)

    def test_flights_that_are_not_there(self):
        given = joined_net()
        for word in ("deliver", "lose", "copy", "mark"):
            self.refuse(given, (word, 0), UnknownFlight)
        given.do(("write", 0, 1, [1]))
        given.do(("write", 0, 1, [2]))
        for word in ("deliver", "lose", "copy", "mark"):
            for at in (-1, -2, 2, 3, 99):
                self.refuse(given, (word, at), UnknownFlight)

    def test_what_the_methods_of_hosts_raise(self):
        given = joined_net()
        given.do(("write", 1, 1, [5]))
        for deed, error in (
                (("connect", 0, 0, 2, 80), InvalidPort), (("connect", 0, 70, 2, 65536), InvalidPort),
                (("connect", 0, 70, 1, 70), OwnAddress), (("connect", 0, 70, 2, 80), SocketInUse),
                (("listen", 1, 0, 1), InvalidPort), (("listen", 1, 81, 0), InvalidAmount),
                (("listen", 1, 80, 1), SocketInUse), (("write", 0, 2, [1]), UnknownSocket),
                (("write", 0, 0, [1]), UnknownSocket), (("read", 0, 2, 1), UnknownSocket),
                (("read", 0, 1, -1), InvalidAmount), (("read", 0, 2, -1), UnknownSocket),
                (("finish", 0, 2), UnknownSocket), (("abort", 0, 2), UnknownSocket),
                (("release", 0, 2), UnknownSocket), (("release", 0, 1), NotEnded)):
            self.refuse(given, deed, error)
        given.do(("finish", 0, 1))
        self.refuse(given, ("write", 0, 1, [1]), AlreadyFinished)
        given.do(("abort", 0, 1))
        self.refuse(given, ("write", 0, 1, [1]), ConnectionEnded)
        self.refuse(given, ("finish", 0, 1), ConnectionEnded)

    def test_the_error_that_is_named_first(self):
        given = joined_net()
        self.refuse(given, ("write", 9, 9), InvalidDeed)
        self.refuse(given, ("jump", 9), InvalidDeed)
        self.refuse(given, ("deliver", 9, 9), InvalidDeed)
        self.refuse(given, ("write", 9, 9, [1]), UnknownHost)
        self.refuse(given, ("connect", -1, 0, 2, 0), UnknownHost)
        self.refuse(given, ("listen", 2, 0, 0), UnknownHost)

    def test_a_tick_that_a_host_is_ahead_of(self):
        given = joined_net()
        given.hosts[1].tick(1)
        self.assertIsNone(given.do(("tick",)))
        given.hosts[1].tick(3)
        self.refuse(given, ("tick",), TickInThePast)


class OtherEndTest(unittest.TestCase):
    def test_other_ends(self):
        given = joined_net(3)
        self.assertEqual((given.other_end(0, 1), given.other_end(1, 1)), ((1, 1), (0, 1)))
        given.do(("listen", 2, 90, 8))
        self.assertEqual(given.do(("connect", 1, 71, 3, 90)), 2)
        # The socket does not know its peer yet.
        self.assertIsNone(given.other_end(1, 2))
        given.do(("deliver", 0))
        self.assertIsNone(given.other_end(1, 2))
        self.assertEqual(given.other_end(2, 1), (1, 2))
        deliver_all(given)
        self.assertEqual((given.other_end(1, 2), given.other_end(2, 1)), ((2, 1), (1, 2)))
        self.assertIsInstance(given.other_end(1, 2), tuple)

    def test_an_address_that_no_host_has(self):
        given = net()
        given.do(("listen", 1, 80, 8))
        given.do(("connect", 0, 70, 2, 80))
        packet = given.flights.at(0).packet
        # The checksum adds both addresses up, so that the octets are intact from 0 to 3, too.
        given.hosts[1].receive(packet)
        self.assertEqual(given.other_end(1, 1), (0, 1))
        stranger = Net([(3, options()), (4, options())])
        stranger.do(("listen", 0, 80, 8))
        stranger.hosts[0].receive(Packet(0, 3, packet.octets))
        self.assertEqual(stranger.hosts[0].peer_of(1), (0, 70, 1))
        self.assertIsNone(stranger.other_end(0, 1))

    def test_an_end_that_is_gone(self):
        given = joined_net()
        given.do(("restart", 1))
        self.assertEqual(given.other_end(0, 1), (1, 1))
        self.assertRaises(UnknownSocket, given.other_end, 1, 1)

    def test_errors(self):
        given = joined_net()
        for index in (-1, -2, 2, 9):
            self.assertRaises(UnknownHost, given.other_end, index, 1)
            self.assertRaises(UnknownHost, given.other_end, index, 99)
        for socket in (-1, 0, 2):
            self.assertRaises(UnknownSocket, given.other_end, 0, socket)


if __name__ == "__main__":
    unittest.main()
