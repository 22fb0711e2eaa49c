import unittest

from throughline.errors import UnknownFlight
from throughline.host.packet import Packet
from throughline.net.flights import Flight, Flights


def packet(number, marked=False):
    return Packet(1, 2, [number], marked=marked)


def sent(count, *, life=10):
    """Flights with so many packets; the packet k was sent at tick k."""
    flights = Flights(life)
    for k in range(count):
        flights.send(packet(k), k)
    return flights


def numbers(flights):
    return [flight.number for flight in flights]


class FlightTest(unittest.TestCase):
    def test_fields(self):
        flight = Flight(3, 4, packet(5))
        self.assertEqual((flight.number, flight.birth, flight.packet), (3, 4, packet(5)))

    def test_equality(self):
        self.assertTrue(Flight(3, 4, packet(5)) == Flight(3, 4, packet(5)))
        self.assertFalse(Flight(3, 4, packet(5)) != Flight(3, 4, packet(5)))
        for other in (Flight(2, 4, packet(5)), Flight(3, 5, packet(5)), Flight(3, 4, packet(6)),
                      Flight(3, 4, packet(5, True)), (3, 4, packet(5)), None, 3):
            self.assertFalse(Flight(3, 4, packet(5)) == other)

    def test_the_packet_is_not_kept(self):
        given = packet(5)
        flight = Flight(3, 4, given)
        given.octets.append(6)
        given.marked = True
        self.assertEqual(flight.packet, packet(5))


class FlightsTest(unittest.TestCase):
    def refused(self, flights):
        before = (list(flights), flights.next_number)
        for name in ("at", "take", "copy_of", "mark"):
            for position in (-1, -len(flights), -len(flights) - 1, len(flights), len(flights) + 1, 10 ** 9):
                if not 0 <= position < len(flights):
                    with self.assertRaises(UnknownFlight):
                        getattr(flights, name)(position)
        self.assertEqual((list(flights), flights.next_number), before)

    def test_none(self):
        flights = Flights(10)
        self.assertEqual((len(flights), list(flights), flights.next_number), (0, [], 0))
        self.assertEqual((flights.find(0), flights.expire(100)), (None, []))
        self.refused(flights)

    def test_sending(self):
        flights = Flights(10)
        found = [flights.send(packet(k), 7 * k) for k in range(3)]
        self.assertEqual(found, [Flight(k, 7 * k, packet(k)) for k in range(3)])
        self.assertEqual((list(flights), len(flights), flights.next_number), (found, 3, 3))

    def test_equal_packets_have_different_numbers(self):
        flights = Flights(10)
        flights.send(packet(1), 5)
        flights.send(packet(1), 5)
        self.assertEqual(list(flights), [Flight(0, 5, packet(1)), Flight(1, 5, packet(1))])

    def test_positions_that_are_not_there(self):
        for count in (1, 2, 5):
            self.refused(sent(count))

    def test_at(self):
        flights = sent(3)
        self.assertEqual([flights.at(k) for k in range(3)], list(flights))
        self.assertEqual(len(flights), 3)

    def test_taking(self):
        flights = sent(4)
        self.assertEqual(flights.take(1), Flight(1, 1, packet(1)))
        self.assertEqual(numbers(flights), [0, 2, 3])
        self.assertEqual(flights.take(2).number, 3)
        self.assertEqual(flights.take(0).number, 0)
        self.assertEqual(flights.take(0).number, 2)
        self.assertEqual((len(flights), flights.next_number), (0, 4))
        self.assertEqual(flights.send(packet(9), 9).number, 4)

    def test_a_copy(self):
        flights = sent(3)
        self.assertEqual(flights.copy_of(1), Flight(1, 1, packet(1)))
        self.assertEqual(numbers(flights), [0, 1, 2, 1])
        flights.copy_of(3)
        flights.copy_of(0)
        self.assertEqual(numbers(flights), [0, 1, 2, 1, 1, 0])
        self.assertEqual(flights.next_number, 3)
        self.assertEqual(list(flights)[5], Flight(0, 0, packet(0)))

    def test_a_mark(self):
        flights = sent(3)
        self.assertEqual(flights.mark(1), Flight(1, 1, packet(1, True)))
        self.assertEqual(list(flights),
                         [Flight(0, 0, packet(0)), Flight(1, 1, packet(1, True)), Flight(2, 2, packet(2))])
        flights.mark(1)
        self.assertEqual(flights.at(1), Flight(1, 1, packet(1, True)))

    def test_a_mark_leaves_what_was_returned_before(self):
        flights = Flights(10)
        first = flights.send(packet(0), 0)
        seen = flights.at(0)
        kept = seen.packet
        copied = flights.copy_of(0)
        marked = flights.mark(0)
        for flight in (first, seen, copied):
            self.assertEqual(flight, Flight(0, 0, packet(0)))
        self.assertFalse(kept.marked)
        self.assertEqual(list(flights), [marked, copied])
        self.assertEqual([flight.packet.marked for flight in flights], [True, False])

    def test_a_mark_of_a_copy(self):
        flights = sent(2)
        flights.copy_of(0)
        flights.mark(2)
        self.assertEqual([(flight.number, flight.packet.marked) for flight in flights],
                         [(0, False), (1, False), (0, True)])
        flights.copy_of(2)
        self.assertEqual(flights.at(3), Flight(0, 0, packet(0, True)))

    def test_what_expires(self):
        flights = sent(6)
        self.assertEqual(flights.expire(10), [])
        self.assertEqual(flights.expire(11), [Flight(0, 0, packet(0))])
        self.assertEqual(numbers(flights), [1, 2, 3, 4, 5])
        self.assertEqual([flight.number for flight in flights.expire(14)], [1, 2, 3])
        self.assertEqual(numbers(flights), [4, 5])
        self.assertEqual([flight.number for flight in flights.expire(10 ** 6)], [4, 5])
        self.assertEqual((len(flights), flights.next_number), (0, 6))

    def test_what_expires_comes_in_the_order_of_the_flights(self):
        flights = sent(4, life=1)
        flights.copy_of(0)
        flights.copy_of(3)
        self.assertEqual([flight.number for flight in flights.expire(4)], [0, 1, 2, 0])
        self.assertEqual(numbers(flights), [3, 3])

    def test_finding(self):
        flights = sent(3)
        flights.copy_of(0)
        self.assertEqual([flights.find(number) for number in (0, 1, 2, 3, -1)], [0, 1, 2, None, None])
        flights.take(0)
        self.assertEqual([flights.find(number) for number in (0, 1, 2, 3)], [2, 0, 1, None])
        flights.take(2)
        self.assertIsNone(flights.find(0))

    def test_the_list_of_flights_that_expired_is_new(self):
        flights = sent(2)
        flights.expire(50).append(3)
        self.assertEqual(list(flights), [])


if __name__ == "__main__":
    unittest.main()
