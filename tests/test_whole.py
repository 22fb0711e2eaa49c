"""The whole program together (points 1, 2, 120, 135 and 136)."""

import random
import unittest

from tests.drawn_records import SCRIPTS, call
from tests.nets import net
from throughline.carried.channels import Channels
from throughline.carried.messages import Messages, frame_message
from throughline.host.saved import load_host, save_host
from throughline.net.runs import run
from throughline.records.analysis import analyse
from throughline.records.judge import judge, streams
from throughline.records.reading import read_records
from throughline.records.writing import write_records


def save_and_load(given, index):
    """Puts a host that is loaded from its text in the place of a host."""
    given.hosts[index] = load_host(save_host(given.hosts[index]))


class PrefixTest(unittest.TestCase):
    def test_nets_with_restarts_and_saved_hosts(self):
        octets = records = 0
        for seed in range(24):
            draws = random.Random(seed)
            given = net(2 + seed % 2, life=30, tries=20, max_rto=60, control=("reno", "cubic")[seed % 2],
                        room=(300, 2000, 150000)[seed % 3], ack_delay=(0, 6)[seed % 2], pace=(300, 100000)[seed % 2])
            for index in range(len(given.hosts)):
                given.do(("listen", index, 80, 32))
            ends = {}
            for _ in range(40):
                for _ in range(draws.randrange(6)):
                    call(draws, given)
                run(given, draws.choice(SCRIPTS), seed=draws.randrange(1000), ticks=draws.choice([1, 3, 8]))
                if draws.random() < 0.3:
                    save_and_load(given, draws.randrange(len(given.hosts)))
                for index, host in enumerate(given.hosts):
                    for count in host.sockets:
                        end = given.other_end(index, count)
                        if end is not None:
                            self.assertEqual(ends.setdefault((index, count), end), end)
                for key in given.ledger:
                    got = given.was_read(*key)
                    if got:
                        self.assertEqual(got, given.written(*ends[key])[:len(got)])
            octets += sum(len(given.was_read(*key)) for key in given.ledger)
            records += len(given.records)
            self.check_records(given)
        self.assertGreater(octets, 20000)
        self.assertGreater(records, 2000)

    def check_records(self, given):
        """What the judge and the analysis say of the records, also of those that were written and read."""
        self.assertEqual(judge(given.records, life=given.life), [])
        text = write_records(given.records)
        again = read_records(text)
        self.assertEqual(again, given.records)
        self.assertEqual(write_records(again), text)
        self.assertEqual(analyse(again), analyse(given.records))
        for one, report in zip(streams(again), analyse(given.records)):
            self.assertEqual((len(one.octets), one.arrived, one.count),
                             (report["octets"], report["arrived"], report["count"]))
            index = [host.address for host in given.hosts].index(one.sender)
            written = given.written(index, one.count)
            self.assertEqual(one.octets, written[:len(one.octets)])


class ArrivalTest(unittest.TestCase):
    def test_everything_arrives_and_both_ends_are_done(self):
        for seed, script in enumerate(["chance 300 lose", "delay 1..30; chance 200 copy 2", "nth 3 lose; delay 1..9",
                                       "chance 250 lose; chance 250 mark; chance 300 copy 1; delay 1..20"] * 2):
            draws = random.Random(seed)
            given = net(2, life=40, tries=60, max_rto=60, control=("reno", "cubic")[seed // 4], nagle=seed % 2 == 1)
            given.do(("listen", 1, 80, 8))
            given.do(("connect", 0, 70, 2, 80))
            octets = [[draws.randrange(256) for _ in range(3000)] for _ in range(2)]
            accepted, rows = None, 0
            while accepted is None and rows < 200:
                run(given, script, seed=rows, ticks=10)
                accepted, rows = given.do(("accept", 1, 80)), rows + 1
            ends = [(0, 1), (1, accepted)]
            while any(given.was_read(*ends[1 - me]) != octets[me] for me in range(2)) and rows < 2000:
                for me, end in enumerate(ends):
                    left = octets[me][len(given.written(*end)):]
                    if left:
                        given.do(("write", *end, left))
                    elif not given.ledger.has_finished(*end):
                        given.do(("finish", *end))
                    given.do(("read", *end, 5000))
                save_and_load(given, rows % 2)
                run(given, script, seed=rows, ticks=10)
                rows += 1
            self.assertEqual([given.was_read(*end) for end in ends], octets[::-1])
            for row in range(40):
                run(given, script, seed=row, ticks=200)
                save_and_load(given, row % 2)
            self.assertEqual([given.hosts[index].status(count)["cause"] for index, count in ends], ["done", "done"])
            self.assertEqual(judge(given.records, life=40), [])


class CarriedTest(unittest.TestCase):
    """Sides of channels whose octets are carried by a connection."""

    def set_up(self, draws, script):
        self.draws, self.script = draws, script
        self.net = net(2, life=40, tries=60, max_rto=60, room=draws.choice([300, 2000]))
        self.net.do(("listen", 1, 80, 8))
        self.net.do(("connect", 0, 70, 2, 80))
        accepted, rows = None, 0
        while accepted is None and rows < 300:
            run(self.net, script, seed=rows, ticks=8)
            accepted, rows = self.net.do(("accept", 1, 80)), rows + 1
        self.ends = [(0, 1), (1, accepted)]
        self.sides = [Channels(first=me == 0, window=draws.choice([5, 60, 700]), most=draws.choice([1, 30, 500]))
                      for me in range(2)]
        self.waiting = [[], []]
        self.written, self.was_read = [{}, {}], [{}, {}]

    def carry(self, ticks):
        """Takes what the sides hand out, and gives it to the connection; the other way round as well."""
        for me in range(2):
            self.waiting[me] += self.sides[me].take(self.draws.choice([1, 7, 100, 1000]))
            taken = self.net.do(("write", *self.ends[me], self.waiting[me]))
            del self.waiting[me][:taken]
        run(self.net, self.script, seed=self.draws.randrange(10 ** 6), ticks=ticks)
        moved = 0
        for me in range(2):
            octets = self.net.do(("read", *self.ends[me], self.draws.choice([1, 50, 3000])))
            self.sides[me].receive(octets)
            moved += len(octets) + len(self.waiting[me])
        return moved

    def read_all(self, me):
        for number in list(self.sides[me]):
            got = self.sides[me].read(number, 5000)
            self.was_read[me].setdefault(number, []).extend(got)

    def check(self):
        for me in range(2):
            self.assertIsNone(self.sides[me].failure)
            for number in self.was_read[me]:
                got = self.was_read[me][number]
                self.assertEqual(got, self.written[1 - me].get(number, [])[:len(got)])

    def test_channels_over_a_connection(self):
        octets = 0
        for seed, script in enumerate(["", "chance 200 lose; delay 1..9", "chance 300 copy 1; delay 1..15",
                                       "nth 4 lose; chance 200 mark"] * 2):
            draws = random.Random(seed)
            self.set_up(draws, script)
            for row in range(60):
                for me in range(2):
                    given = self.sides[me]
                    if draws.random() < 0.1 and len(given) < 8:
                        given.open_channel()
                    for number in list(given):
                        data = [draws.randrange(256) for _ in range(draws.choice([0, 0, 3, 200]))]
                        taken = given.write(number, data)
                        self.written[me].setdefault(number, []).extend(data[:taken])
                        if row > 45 and draws.random() < 0.2:
                            given.finish(number)
                    if draws.random() < 0.7:
                        self.read_all(me)
                self.carry(draws.choice([1, 4]))
                if draws.random() < 0.2:
                    save_and_load(self.net, draws.randrange(2))
                    me = draws.randrange(2)
                    self.sides[me] = self.sides[me].fork()
                self.check()
            still = 0
            while still < 40:
                moved = self.carry(10)
                for me in range(2):
                    self.read_all(me)
                still = 0 if moved else still + 1
            self.check()
            self.assertEqual(list(self.sides[0]), list(self.sides[1]))
            for me in range(2):
                for number in list(self.sides[me]):
                    self.assertEqual(self.sides[me].status(number)["waiting"], 0)
                    self.assertEqual(self.was_read[1 - me].get(number, []), self.written[me].get(number, []))
                    self.assertIs(self.sides[1 - me].status(number)["at_end"], self.sides[me].status(number)["finished"])
                    octets += len(self.written[me].get(number, []))
        self.assertGreater(octets, 10000)

    def test_messages_over_a_channel_over_a_connection(self):
        draws = random.Random(121)
        self.set_up(draws, "chance 200 lose; delay 1..9")
        sent = [[draws.randrange(256) for _ in range(draws.choice([0, 1, 40, 900]))] for _ in range(20)]
        left = [octet for message in sent for octet in frame_message(message)]
        number = self.sides[0].open_channel()
        reader, found, rows = Messages(), [], 0
        while len(found) < len(sent) and rows < 5000:
            del left[:self.sides[0].write(number, left)]
            self.carry(3)
            if number in list(self.sides[1]):
                found += reader.feed(self.sides[1].read(number, 100))
            rows += 1
            self.assertEqual(found, sent[:len(found)])
        self.assertEqual((found, reader.pending, left), (sent, 0, []))


if __name__ == "__main__":
    unittest.main()
