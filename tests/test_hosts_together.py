"""Two hosts over a network that loses, repeats, delays and reorders (points 2 and 80 to 91)."""

import random
import unittest

from tests.hosts import host, joined, settle


class Network:
    """Packets of two hosts; each is delivered after a number of ticks that is drawn."""

    def __init__(self, case, seed, *, loss=0, twice=0, late=1, marks=0, start=0, **changed):
        self.case = case
        self.draws = random.Random(seed)
        self.loss, self.twice, self.late, self.marks = loss, twice, late, marks
        self.hosts = [host(1, **changed), host(2, **changed)]
        self.life = self.hosts[0].options.life
        self.now = start
        for one in self.hosts:
            one.tick(start)
        self.under_way = []
        self.old = []

    def collect(self):
        for one in self.hosts:
            for packet in one.take():
                self.old.append((self.now, packet))
                if self.draws.random() < self.loss:
                    continue
                if self.draws.random() < self.marks:
                    packet = packet.with_mark()
                for _ in range(2 if self.draws.random() < self.twice else 1):
                    self.under_way.append((self.now + self.draws.randint(1, self.late), self.draws.random(), packet))

    def tick(self):
        self.collect()
        self.now += 1
        for one in self.hosts:
            one.tick(self.now)
        self.collect()
        due = sorted([entry for entry in self.under_way if entry[0] <= self.now], key=lambda entry: entry[:2])
        self.under_way = [entry for entry in self.under_way if entry[0] > self.now]
        for _, _, packet in due:
            for one in self.hosts:
                one.receive(packet)
            self.collect()
        self.old = [(birth, packet) for birth, packet in self.old if birth + self.life >= self.now]

    def play_old_packets(self, count):
        """Delivers packets that are old, but not older than the life of a packet, once more."""
        for _ in range(count if self.old else 0):
            _, packet = self.draws.choice(self.old)
            for one in self.hosts:
                one.receive(packet)
            self.collect()


class Stream:
    """What one socket writes, and what the socket at the other end reads."""

    def __init__(self, network, writer, reader, octets):
        self.network = network
        self.writer, self.reader = writer, reader
        self.octets, self.written, self.has_read = octets, 0, []

    def step(self):
        one, count = self.writer
        if self.written < len(self.octets) and one.status(count)["cause"] is None:
            self.written += one.write(count, self.octets[self.written:self.written + 200])
            if self.written == len(self.octets):
                self.network.case.assertTrue(one.finish(count))
        one, count = self.reader
        self.has_read += one.read(count, self.network.draws.randrange(400))
        self.network.case.assertEqual(self.has_read, self.octets[:len(self.has_read)])
        self.network.case.assertLessEqual(len(self.has_read), self.written)

    def is_done(self):
        one, count = self.reader
        return self.has_read == self.octets and one.status(count)["at_end"]


class TogetherTest(unittest.TestCase):
    def connect(self, network, port=70):
        """Opens a connection from the first host to the second one, and returns both sockets."""
        one, two = network.hosts
        count = one.connect(port, 2, 80)
        other = None
        while other is None:
            network.tick()
            other = two.accept(80)
            self.assertIsNone(one.status(count)["cause"])
        self.assertEqual(two.peer_of(other)[:2], (1, port))
        return (one, count), (two, other)

    def play(self, network, *streams, ticks=20000):
        for _ in range(ticks):
            network.tick()
            for stream in streams:
                stream.step()
            if all(stream.is_done() for stream in streams):
                return
        self.fail("not done")

    def both_ways(self, network, ends, size):
        octets = [[network.draws.randrange(256) for _ in range(network.draws.randrange(1, size))] for _ in range(2)]
        return [Stream(network, ends[0], ends[1], octets[0]), Stream(network, ends[1], ends[0], octets[1])]

    def check_ended(self, network, *sockets, cause="done"):
        """Both have ended after a bounded number of ticks."""
        for _ in range(3 * network.hosts[0].options.resting + 5000):
            network.tick()
            if all(one.status(count)["phase"] == "ended" for one, count in sockets):
                break
        for one, count in sockets:
            self.assertEqual((one.status(count)["phase"], one.status(count)["cause"]), ("ended", cause))
            one.release(count)
        self.assertEqual([packet for one in network.hosts for packet in one.take()], [])

    def test_a_good_network(self):
        network = Network(self, 1)
        network.hosts[1].listen(80)
        ends = self.connect(network)
        self.play(network, *self.both_ways(network, ends, 5000))
        self.check_ended(network, *ends)

    def test_bad_networks(self):
        for seed in range(8):
            network = Network(self, seed, loss=0.2, twice=0.2, late=20, marks=0.1, tries=40, max_rto=60, life=40,
                              control=("reno", "cubic")[seed % 2], room=(1000, 70000)[seed % 3 == 2],
                              mss=(100, 8, 60)[seed % 3], pace=(100000, 90)[seed % 2],
                              start=(0, 4294967296 - 300)[seed % 2])
            for one in network.hosts:
                one.counter = seed * 1000003
            network.hosts[1].listen(80)
            ends = self.connect(network)
            self.play(network, *self.both_ways(network, ends, 2500))
            self.check_ended(network, *ends)

    def test_several_connections_at_once(self):
        network = Network(self, 5, loss=0.1, twice=0.1, late=5, tries=40)
        network.hosts[1].listen(80)
        ends = [self.connect(network, port) for port in (70, 71, 72)]
        self.play(network, *[stream for pair in ends for stream in self.both_ways(network, pair, 800)])
        self.check_ended(network, *[end for pair in ends for end in pair])

    def test_both_connect(self):
        network = Network(self, 6)
        one, two = network.hosts
        self.assertEqual((one.connect(70, 2, 80), two.connect(80, 1, 70)), (1, 1))
        for _ in range(5):
            network.tick()
        self.assertEqual([each.status(1)["phase"] for each in (one, two)], ["established", "established"])
        self.play(network, *self.both_ways(network, ((one, 1), (two, 1)), 2000))

    def test_a_host_that_connects_to_itself(self):
        one = host(1)
        one.listen(80)
        self.assertEqual(one.connect(70, 1, 80), 1)
        settle(one)
        self.assertEqual((one.accept(80), one.peer_of(1), one.peer_of(2)), (2, (1, 80, 2), (1, 70, 1)))
        one.write(1, [1, 2])
        one.write(2, [3])
        settle(one)
        self.assertEqual((one.read(2, 9), one.read(1, 9)), ([1, 2], [3]))

    def test_a_refused_connection(self):
        one, two = host(1), host(2)
        one.connect(70, 2, 80)
        settle(one, two)
        self.assertEqual((one.status(1)["cause"], two.sockets), ("refused", []))
        two.listen(80)
        self.assertEqual(one.connect(70, 2, 80), 2)
        settle(one, two)
        self.assertEqual((one.status(2)["phase"], two.accept(80)), ("established", 1))

    def test_an_abort(self):
        for me in (0, 1):
            pair = joined()
            pair[1 - me].write(1, [1, 2, 3])
            settle(*pair)
            pair[me].abort(1)
            settle(*pair)
            self.assertEqual((pair[me].status(1)["cause"], pair[1 - me].status(1)["cause"]), ("aborted", "reset"))
            self.assertEqual(pair[me].read(1, 9), [1, 2, 3])

    def test_an_abort_whose_reset_is_lost(self):
        one, two = joined()
        one.abort(1)
        one.take()
        two.write(1, [1])
        settle(one, two)
        self.assertEqual(two.status(1)["cause"], "reset")

    def test_a_restart(self):
        one, two = joined()
        two.write(1, [1, 2, 3])
        two.restart()
        one.write(1, [4])
        settle(one, two)
        self.assertEqual((one.status(1)["cause"], one.read(1, 9), two.sockets), ("reset", [], []))

    def test_a_new_connection_on_the_same_ports_while_old_packets_arrive(self):
        for seed in range(10):
            network = Network(self, seed, loss=0.15, twice=0.2, late=15, tries=40, max_rto=60, life=60)
            network.hosts[1].listen(80)
            first = self.connect(network)
            streams = self.both_ways(network, first, 4000)
            for _ in range(network.draws.randrange(5, 60)):
                network.tick()
                for stream in streams:
                    stream.step()
            network.hosts[seed % 2].restart()
            network.hosts[1].unlisten(80)
            network.hosts[1].listen(80)
            if seed % 2 == 1:
                # The socket of the host that goes on is in use until it has ended.
                network.hosts[0].abort(first[0][1])
            count = network.hosts[0].connect(70, 2, 80)
            other = None
            while other is None:
                network.tick()
                network.play_old_packets(3)
                other = network.hosts[1].accept(80)
                if other is not None and network.hosts[1].peer_of(other) != (1, 70, count):
                    # An old SYN has opened a connection that nobody wants any more.
                    network.hosts[1].abort(other)
                    other = None
            second = ((network.hosts[0], count), (network.hosts[1], other))
            streams = self.both_ways(network, second, 1500)
            for _ in range(20000):
                network.tick()
                network.play_old_packets(2)
                for stream in streams:
                    stream.step()
                if all(stream.is_done() for stream in streams):
                    break
            self.assertTrue(all(stream.is_done() for stream in streams), seed)

    def test_counts_are_never_given_twice(self):
        draws = random.Random(91)
        hosts = [host(1), host(2)]
        seen = [[], []]
        for _ in range(1500):
            me = draws.randrange(2)
            one = hosts[me]
            call = draws.choice(["connect", "connect", "listen", "abort", "release", "restart", "settle", "settle"])
            try:
                if call == "connect":
                    one.connect(draws.randrange(1, 9), 2 - me, draws.randrange(1, 9))
                elif call == "listen":
                    one.listen(draws.randrange(1, 9), backlog=32)
                elif call in ("abort", "release"):
                    getattr(one, call)(draws.choice(one.sockets or [0]))
                elif call == "restart" and draws.random() < 0.2:
                    one.restart()
                else:
                    settle(*hosts)
            except ValueError:
                pass
            for known, given in zip(seen, hosts):
                new = [count for count in given.sockets if count not in known]
                self.assertTrue(all(count > max(known, default=0) for count in new))
                known += new
                self.assertEqual(given.sockets, sorted(given.sockets))
                self.assertTrue(all(count <= given.counter for count in known))
        self.assertGreater(min(len(known) for known in seen), 100)

    def test_a_socket_keeps_its_place_and_its_peer(self):
        network = Network(self, 4, loss=0.2, twice=0.3, late=9, tries=40)
        network.hosts[1].listen(80)
        ends = self.connect(network)
        streams = self.both_ways(network, ends, 1500)
        kept = {}
        for _ in range(400):
            network.tick()
            network.play_old_packets(1)
            for stream in streams:
                stream.step()
            for me, one in enumerate(network.hosts):
                for count in one.sockets:
                    socket = one.find(count)
                    place = (socket.count, socket.port, socket.peer, socket.peer_port)
                    learnt = (socket.peer_count, socket.peer_first, socket.peer_shift)
                    before = kept.get((me, count), (place, (None, None, None)))
                    self.assertEqual(place, before[0])
                    self.assertIn(before[1], ((None, None, None), learnt))
                    kept[me, count] = (place, learnt)


if __name__ == "__main__":
    unittest.main()
