"""Runs: ticks of a net by a script of faults (points 104 to 107)."""

from heapq import heappop, heappush

from throughline.errors import InvalidAmount
from throughline.net.faults import Faults
from throughline.net.scripts import parse_script

GREATEST_SEED = 4294967295
MOST_TICKS = 1000


def run(net, script, *, seed, ticks):
    """Plays a run, and returns the number of its deeds."""
    rules = parse_script(script)
    if not 0 <= seed <= GREATEST_SEED:
        raise InvalidAmount(f"a seed of {seed}")
    if not 0 <= ticks <= MOST_TICKS:
        raise InvalidAmount(f"{ticks} ticks")
    player = Player(net, Faults(rules, seed=seed))
    player.decide_all()
    for _ in range(ticks):
        player.play_tick()
    return player.deeds


class Player:
    """Does the deeds of one run."""

    def __init__(self, net, faults):
        self.deeds = 0
        self._net = net
        self._faults = faults
        # The next number that is not decided, once the flights under way are.
        self._undecided = net.flights.next_number
        # A heap of triples: a tick, how many numbers became due before, and a number that is due then.
        self._due = []
        self._became_due = 0

    def decide_all(self):
        """Decides all flights that are under way, but not the copies that this makes."""
        for flight in list(self._net.flights):
            self._decide(flight)

    def play_tick(self):
        self._do(("tick",))
        self._decide_sent()
        while len(self._due) > 0 and self._due[0][0] <= self._net.now:
            number = heappop(self._due)[2]
            if self._net.flights.find(number) is not None:
                self._do_for("deliver", number)
                self._decide_sent()

    def _do(self, deed):
        self._net.do(deed)
        self.deeds += 1

    def _do_for(self, word, number):
        """Does a deed for the first flight with the number."""
        self._do((word, self._net.flights.find(number)))

    def _decide_sent(self):
        """Decides the flights that were sent since, in order."""
        flights = self._net.flights
        while self._undecided < flights.next_number:
            flight = flights.at(flights.find(self._undecided))
            self._undecided += 1
            self._decide(flight)

    def _decide(self, flight):
        number = flight.number
        verdict = self._faults.judge(flight.packet.sender, flight.packet.target, flight.birth)
        if verdict.lost:
            self._do_for("lose", number)
            return
        if verdict.marked:
            self._do_for("mark", number)
        for _ in range(verdict.copies):
            self._do_for("copy", number)
        for _ in range(verdict.arrivals):
            heappush(self._due, (flight.birth + verdict.delay, self._became_due, number))
            self._became_due += 1
