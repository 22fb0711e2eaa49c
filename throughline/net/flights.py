"""The packets under way (points 93 and 94)."""

from throughline.errors import UnknownFlight


class Flight:
    """A packet under way, with its number and its birth."""

    def __init__(self, number, birth, packet):
        self.number = number
        self.birth = birth
        self.packet = packet.fork()

    def __eq__(self, other):
        if not isinstance(other, Flight):
            return False
        return (self.number, self.birth, self.packet) == (other.number, other.birth, other.packet)


class Flights:
    """The flights of a net, in their order."""

    def __init__(self, life):
        self.next_number = 0
        self._life = life
        self._flights = []

    def send(self, packet, now):
        """Adds a flight with the next number, and returns it."""
        flight = Flight(self.next_number, now, packet)
        self.next_number += 1
        self._flights.append(flight)
        return flight

    def at(self, i):
        """Returns the flight at the position."""
        if not 0 <= i < len(self._flights):
            raise UnknownFlight(f"no flight at {i}")
        return self._flights[i]

    def take(self, i):
        """Removes the flight at the position, and returns it."""
        flight = self.at(i)
        del self._flights[i]
        return flight

    def copy_of(self, i):
        """Adds a copy of the flight at the position behind all others, and returns it."""
        flight = self.at(i)
        copied = Flight(flight.number, flight.birth, flight.packet)
        self._flights.append(copied)
        return copied

    def mark(self, i):
        """Puts a flight with the marked packet in the place of a flight, and returns it."""
        flight = self.at(i)
        marked = Flight(flight.number, flight.birth, flight.packet.with_mark())
        self._flights[i] = marked
        return marked

    def expire(self, now):
        """Removes the flights whose life is over, and returns them in their order."""
        over = [flight for flight in self._flights if flight.birth + self._life < now]
        self._flights = [flight for flight in self._flights if flight.birth + self._life >= now]
        return over

    def find(self, number):
        """Returns the position of the first flight with this number, or None."""
        for at, flight in enumerate(self._flights):
            if flight.number == number:
                return at
        return None

    def fork(self):
        """Returns equal flights that go on alone."""
        other = Flights(self._life)
        other.next_number = self.next_number
        other._flights = [Flight(flight.number, flight.birth, flight.packet) for flight in self._flights]
        return other

    def __len__(self):
        return len(self._flights)

    def __iter__(self):
        return iter(self._flights)
