"""A host and the one that is loaded from its text go on in the same way (points 136 and 141)."""

import random
import unittest

from tests.drawn_records import SCRIPTS, call, played
from tests.endpoints import CAUSES, PHASES, ended, in_phase
from tests.nets import net
from tests.test_saved import with_sockets
from throughline.errors import ThroughlineError
from throughline.host.packet import Packet
from throughline.host.saved import load_host, save_host
from throughline.net.runs import run
from throughline.offsets.piece import Piece


def returned(call_it):
    """What a call returns, or the class of what it raises."""
    try:
        return call_it()
    except ThroughlineError as error:
        return error.__class__


def drawn_call(draws, given, packets):
    """A call of a host by its name, with its arguments; also calls that are refused."""
    sockets = given.sockets + [given.counter + 1, 0]
    socket = draws.choice(sockets)
    octets = [draws.randrange(256) for _ in range(draws.choice([0, 1, 30, 500]))]
    port, peer = draws.choice([0, 70, 71, 80, 90]), draws.choice([1, 2, 3])
    rows = [("connect", port, peer, draws.choice([80, 70, 90])), ("unlisten", port), ("accept", port),
            ("write", socket, octets), ("write", socket, octets), ("read", socket, draws.choice([-1, 0, 1, 400])),
            ("finish", socket), ("abort", socket), ("release", socket), ("peer_of", socket), ("status", socket),
            ("take",), ("tick", given.now + draws.choice([-1, 0, 1, 1, 2, 40]))]
    if packets:
        rows += [("receive", draws.choice(packets))] * 8
    return draws.choice(rows)


class RowsOfCallsTest(unittest.TestCase):
    def test_hosts_of_nets_under_drawn_rows(self):
        raised, sent = 0, 0
        for seed in range(40):
            draws = random.Random(seed)
            given = played(draws, ticks=25, count=2)
            packets = [record.packet for record in given.records if record.packet.target == 1]
            packets += [Packet(2, 1, [0] * 30), Packet(1, 2, [])]
            one = given.hosts[0]
            other = load_host(save_host(one))
            for _ in range(150):
                word, *arguments = drawn_call(draws, one, packets)
                results = [returned(lambda: getattr(each, word)(*arguments)) for each in (one, other)]
                self.assertEqual(results[0], results[1], word)
                raised += isinstance(results[0], type)
                if word == "take":
                    sent += len(results[0])
                if draws.random() < 0.05:
                    results = [returned(lambda: each.listen(80, backlog=3)) for each in (one, other)]
                    self.assertEqual(results[0], results[1])
                # Also the one that is loaded from the one that was loaded.
                if draws.random() < 0.05:
                    other = load_host(save_host(other))
                if draws.random() < 0.01:
                    one.restart()
                    other.restart()
                self.assertEqual(save_host(other), save_host(one))
        self.assertGreater(raised, 500)
        self.assertGreater(sent, 200)

    def test_sockets_in_each_phase(self):
        for kind in ("reno", "cubic"):
            endpoints = [in_phase(phase, control=kind) for phase in PHASES]
            endpoints += [ended(cause) for cause in CAUSES] if kind == "reno" else []
            # Some of them hold octets that came early.
            for endpoint in endpoints[2:4]:
                endpoint.arrive(Piece(7, data=[7, 8], ack=1, window=500), 1)
            one = with_sockets(endpoints, control=kind)
            other = load_host(save_host(one))
            for now in list(range(1, 60)) + [300, 301, 5000]:
                for given in (one, other):
                    given.tick(now)
                if now % 7 == 0:
                    for count in one.sockets:
                        for word, *arguments in (("write", [1] * 120), ("read", 5), ("status",), ("finish",)):
                            self.assertEqual(returned(lambda: getattr(one, word)(count, *arguments)),
                                             returned(lambda: getattr(other, word)(count, *arguments)))
                self.assertEqual(one.take(), other.take())
                self.assertEqual(save_host(one), save_host(other))


class NetsTest(unittest.TestCase):
    def test_nets_whose_hosts_are_saved_and_loaded_in_between(self):
        octets = 0
        for seed in range(16):
            draws = random.Random(seed)
            one = net(2 + seed % 2, life=30, tries=20, max_rto=60, control=("reno", "cubic")[seed % 2],
                      keep_alive=(0, 25)[seed % 2], nagle=seed % 3 == 0, room=(300, 2000, 200000)[seed % 3])
            for index in range(len(one.hosts)):
                one.do(("listen", index, 80, 32))
            other = one.fork()
            for row in range(25):
                seed_of_row = draws.randrange(10 ** 6)
                for given in (one, other):
                    row_draws = random.Random(seed_of_row)
                    for _ in range(4):
                        call(row_draws, given)
                    run(given, row_draws.choice(SCRIPTS), seed=row, ticks=row_draws.choice([1, 2, 9]))
                index = draws.randrange(len(other.hosts))
                other.hosts[index] = load_host(save_host(other.hosts[index]))
                self.assertEqual(other.records[len(one.records) - 5:], one.records[len(one.records) - 5:])
                self.assertEqual(len(other.records), len(one.records))
            self.assertEqual(list(other.history()), list(one.history()))
            self.assertEqual(other.records, one.records)
            self.assertEqual([save_host(host) for host in other.hosts], [save_host(host) for host in one.hosts])
            octets += sum(len(one.was_read(*key)) for key in one.ledger)
        self.assertGreater(octets, 10000)


if __name__ == "__main__":
    unittest.main()
