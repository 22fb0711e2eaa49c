"""The promise of the whole program over nets (points 1 and 2)."""

import random
import unittest

from tests.nets import net
from throughline.errors import ThroughlineError
from throughline.net.runs import run

SCRIPTS = [
    "", "chance 200 lose", "delay 1..12", "chance 300 copy 1; delay 1..20", "chance 250 lose; chance 200 copy 2; delay 1..9",
    "nth 4 lose; nth 7 copy 3; chance 300 delay 20..40; chance 100 mark", "from 1 chance 400 lose; to 1 delay 3..30",
]


class Checker:
    """Looks after each deed at what was read: at each end, a prefix of what the other end has written."""

    def __init__(self, case, given):
        self.case, self.net = case, given
        self.ends = {}

    def check(self):
        given = self.net
        for index, host in enumerate(given.hosts):
            for count in host.sockets:
                end = given.other_end(index, count)
                # A socket keeps the other end that it has learnt.
                known = self.ends.get((index, count))
                if known is not None:
                    self.case.assertEqual(end, known)
                if end is not None:
                    self.ends[index, count] = end
        for index, count in given.ledger:
            got = given.was_read(index, count)
            if got:
                self.case.assertIn((index, count), self.ends)
                written = given.written(*self.ends[index, count])
                self.case.assertEqual(got, written[:len(got)])


class PrefixTest(unittest.TestCase):
    def call(self, given, draws):
        """A drawn call of an application."""
        index = draws.randrange(len(given.hosts))
        sockets = given.hosts[index].sockets
        socket = draws.choice(sockets) if sockets else 0
        octets = [draws.randrange(256) for _ in range(draws.choice([0, 1, 50, 400]))]
        deed = draws.choice(
            [("write", index, socket, octets)] * 6 + [("read", index, socket, draws.choice([1, 30, 500]))] * 8
            + [("connect", index, draws.randrange(70, 73), draws.randrange(1, 4), 80), ("accept", index, 80),
               ("finish", index, socket), ("release", index, socket)])
        if draws.random() < 0.02:
            deed = draws.choice([("abort", index, socket), ("restart", index)])
        try:
            given.do(deed)
        except ThroughlineError:
            pass
        if deed[0] == "restart":
            given.do(("listen", index, 80, 32))

    def disturb(self, given, draws):
        """A drawn deed for a flight."""
        if len(given.flights) > 0:
            word = draws.choice(["deliver"] * 5 + ["copy", "copy", "mark", "lose"])
            given.do((word, draws.randrange(len(given.flights))))

    def listening(self, count, **changed):
        given = net(count, **{"life": 40, "tries": 20, "max_rto": 60, "pace": 400, **changed})
        for index in range(count):
            given.do(("listen", index, 80, 32))
        return given

    def test_under_scripts_of_faults(self):
        octets = 0
        for seed in range(14):
            draws = random.Random(seed)
            given = self.listening(2 + seed % 2, control=("reno", "cubic")[seed % 2], keep_alive=(0, 30)[seed % 2])
            checker = Checker(self, given)
            for _ in range(60):
                for _ in range(draws.randrange(6)):
                    self.call(given, draws)
                    checker.check()
                run(given, SCRIPTS[seed % len(SCRIPTS)], seed=draws.randrange(1000), ticks=draws.choice([1, 2, 9]))
                checker.check()
            octets += sum(len(given.was_read(*key)) for key in given.ledger)
        self.assertGreater(octets, 8000)

    def test_under_drawn_deeds(self):
        octets = 0
        for seed in range(14):
            draws = random.Random(seed)
            given = self.listening(2 + seed % 2, nagle=seed % 3 == 0, ack_delay=seed % 2 * 4)
            checker = Checker(self, given)
            for _ in range(900):
                choice = draws.random()
                if choice < 0.3:
                    self.call(given, draws)
                elif choice < 0.9:
                    self.disturb(given, draws)
                else:
                    given.do(("tick",))
                checker.check()
            octets += sum(len(given.was_read(*key)) for key in given.ledger)
        self.assertGreater(octets, 10000)

    def test_restarts_and_late_packets_of_earlier_connections(self):
        connections = 0
        for seed in range(14):
            draws = random.Random(seed)
            given = self.listening(2, life=80)
            checker = Checker(self, given)
            for row in range(12):
                port = 70 + draws.randrange(2)
                try:
                    count = given.do(("connect", 0, port, 2, 80))
                except ThroughlineError:
                    count = 0
                for _ in range(draws.randrange(10, 60)):
                    if draws.random() < 0.2:
                        given.do(("tick",))
                    for index in range(2):
                        for socket in given.hosts[index].sockets:
                            if given.hosts[index].status(socket)["phase"] != "ended":
                                if not given.hosts[index].find(socket).endpoint.sender.finished:
                                    given.do(("write", index, socket, [row, index, socket]))
                            given.do(("read", index, socket, 100))
                    # Packets are copied again and again, so that old ones are still under way later.
                    self.disturb(given, draws)
                    self.disturb(given, draws)
                    checker.check()
                if draws.random() < 0.5:
                    index = draws.randrange(2)
                    given.do(("restart", index))
                    given.do(("listen", index, 80, 32))
                elif count:
                    given.do(("abort", 0, count))
                connections += len([1 for index, socket in given.ledger if given.was_read(index, socket)])
        self.assertGreater(connections, 100)


class ArrivalTest(unittest.TestCase):
    def transfer(self, given, script, draws, size):
        """Writes and reads at both ends until all has arrived, finishes, and waits until both ends are done."""
        # Each run decides anew what is under way: in runs of one tick, copies would be copied faster than they arrive.
        self.assertEqual(given.do(("connect", 0, 70, 2, 80)), 1)
        ends, other = [(0, 1)], None
        for _ in range(2000):
            run(given, script, seed=draws.randrange(4294967296), ticks=12)
            other = given.do(("accept", 1, 80))
            if other is not None:
                break
        ends.append((1, other))
        self.assertEqual(given.other_end(0, 1), (1, other))
        octets = [[draws.randrange(256) for _ in range(draws.randrange(1, size))] for _ in ends]
        for _ in range(4000):
            for me, end in enumerate(ends):
                left = octets[me][len(given.written(*end)):]
                if left:
                    given.do(("write", *end, left[:draws.randrange(1, 300)]))
                elif not given.ledger.has_finished(*end):
                    self.assertIs(given.do(("finish", *end)), True)
                given.do(("read", *end, draws.randrange(300)))
                peer = ends[1 - me]
                self.assertEqual(given.was_read(*end), given.written(*peer)[:len(given.was_read(*end))])
            if all(given.was_read(*ends[1 - me]) == octets[me] for me in (0, 1)):
                break
            run(given, script, seed=draws.randrange(4294967296), ticks=12)
        for me in (0, 1):
            self.assertEqual(given.was_read(*ends[1 - me]), octets[me])
        for _ in range(60):
            statuses = [given.hosts[index].status(count) for index, count in ends]
            if all(status["phase"] == "ended" for status in statuses):
                break
            run(given, script, seed=draws.randrange(4294967296), ticks=200)
        self.assertEqual([(status["cause"], status["at_end"]) for status in statuses], [("done", True)] * 2)

    def test_everything_arrives(self):
        for seed, script in enumerate(SCRIPTS * 2):
            draws = random.Random(seed)
            given = net(2, life=40, tries=60, max_rto=60, control=("reno", "cubic")[seed % 2], nagle=seed % 3 == 0,
                        room=(1000, 3000)[seed % 2], ack_delay=(0, 5)[seed // 7])
            given.do(("listen", 1, 80, 8))
            self.transfer(given, script, draws, 4000)

    def test_after_a_time_in_which_nothing_gets_through(self):
        given = net(2, life=40, tries=60, max_rto=60)
        given.do(("listen", 1, 80, 8))
        given.do(("connect", 0, 70, 2, 80))
        run(given, "", seed=1, ticks=3)
        self.assertEqual(given.do(("accept", 1, 80)), 1)
        given.do(("write", 0, 1, [5] * 900))
        given.do(("finish", 0, 1))
        run(given, "lose", seed=1, ticks=500)
        self.assertEqual(given.do(("read", 1, 1, 1000)), [])
        run(given, "chance 400 lose", seed=1, ticks=1000)
        self.assertEqual(given.do(("read", 1, 1, 1000)), [5] * 900)
        given.do(("finish", 1, 1))
        for _ in range(6):
            run(given, "nth 3 lose", seed=1, ticks=1000)
        self.assertEqual([given.hosts[index].status(1)["cause"] for index in (0, 1)], ["done", "done"])

    def test_octets_of_packets_never_change(self):
        given = net(3, life=30)
        for index in range(3):
            given.do(("listen", index, 80, 8))
        given.do(("connect", 0, 70, 2, 80))
        given.do(("connect", 1, 70, 3, 80))
        for seed in range(20):
            run(given, SCRIPTS[5], seed=seed, ticks=20)
        first = {}
        for record in given.records:
            packet = record.packet
            if record.word == "sent":
                first[record.number] = (packet.sender, packet.target, packet.octets)
            self.assertEqual((packet.sender, packet.target, packet.octets), first[record.number])


if __name__ == "__main__":
    unittest.main()
