"""Records, the ledger, the history and forks of nets (points 96, 97 and 108)."""

import inspect
import random
import unittest

from tests.frozen import frozen
from tests.nets import deeds, deliver_all, joined_net, net, words
from throughline.errors import ThroughlineError
from throughline.net.net import Net
from throughline.net.records import Record
from throughline.net.runs import run


class RecordsTest(unittest.TestCase):
    def test_a_record_for_each_word(self):
        given = net(life=2)
        given.do(("connect", 0, 70, 2, 80))
        packet = given.flights.at(0).packet
        for deed in (("tick",), ("copy", 0), ("copy", 1), ("mark", 1), ("lose", 1), ("deliver", 0), ("lose", 1),
                     ("tick",), ("tick",)):
            given.do(deed)
        self.assertEqual(words(given), [
            (0, 0, "sent"), (1, 0, "copied"), (1, 0, "copied"), (1, 0, "marked"), (1, 0, "lost"), (1, 0, "delivered"),
            (1, 1, "sent"), (1, 1, "lost"), (3, 0, "expired")])
        self.assertEqual([record.packet for record in given.records if record.number == 0],
                         [packet, packet, packet, packet.with_mark(), packet.with_mark(), packet, packet])
        self.assertTrue(all(isinstance(record, Record) for record in given.records))

    def test_a_copy_of_a_marked_packet_is_marked(self):
        given = net()
        given.do(("connect", 0, 70, 2, 80))
        given.do(("mark", 0))
        given.do(("copy", 0))
        given.do(("mark", 0))
        self.assertEqual([record.packet.marked for record in given.records], [False, True, True, True])
        self.assertEqual([record.word for record in given.records], ["sent", "marked", "copied", "marked"])

    def test_calls_that_send_nothing(self):
        given = net()
        given.do(("listen", 1, 80, 8))
        given.do(("tick",))
        given.do(("accept", 1, 80))
        given.do(("restart", 0))
        self.assertEqual(given.records, [])

    def test_what_was_handed_out_does_not_change(self):
        given = joined_net(life=5)
        octets = [1, 2, 3]
        given.do(("write", 0, 1, octets))
        given.do(("write", 0, 1, [4]))
        octets.append(9)
        flight, packet = given.flights.at(0), given.flights.at(0).packet
        records = list(given.records)
        history = list(given.history())
        handed = [flight, packet, records, history, given.written(0, 1), given.was_read(1, 1)]
        before = frozen(handed)
        given.do(("mark", 0))
        given.do(("copy", 0))
        deliver_all(given)
        got = given.do(("read", 1, 1, 2))
        self.assertEqual(got, [1, 2])
        for _ in range(9):
            given.do(("tick",))
        self.assertEqual(frozen(handed), before)
        got.append(7)
        given.written(0, 1).append(8)
        given.was_read(1, 1).append(8)
        self.assertEqual((given.written(0, 1), given.was_read(1, 1)), ([1, 2, 3, 4], [1, 2]))

    def test_packets_that_are_changed_by_the_caller(self):
        given = joined_net()
        given.do(("write", 0, 1, [1, 2, 3]))
        given.records[-1].packet.octets.append(9)
        given.do(("copy", 0))
        given.records[-1].packet.octets.clear()
        deliver_all(given)
        self.assertEqual(given.do(("read", 1, 1, 9)), [1, 2, 3])


class LedgerTest(unittest.TestCase):
    def test_what_each_deed_notes(self):
        given = joined_net()
        self.assertEqual(list(given.ledger), [])
        given.do(("write", 0, 1, [1, 2]))
        given.do(("write", 0, 1, [3]))
        deliver_all(given)
        given.do(("read", 1, 1, 2))
        given.do(("read", 1, 1, 2))
        self.assertEqual(list(given.ledger), [(0, 1), (1, 1)])
        self.assertEqual((given.written(0, 1), given.was_read(0, 1)), ([1, 2, 3], []))
        self.assertEqual((given.written(1, 1), given.was_read(1, 1)), ([], [1, 2, 3]))
        self.assertIs(given.ledger.has_finished(0, 1), False)
        given.do(("finish", 0, 1))
        self.assertIs(given.ledger.has_finished(0, 1), True)
        self.assertIs(given.ledger.has_finished(1, 1), False)

    def test_only_what_was_taken(self):
        given = joined_net()
        self.assertEqual(given.do(("write", 0, 1, [k % 256 for k in range(1500)])), 1000)
        self.assertEqual(given.do(("write", 0, 1, [5])), 0)
        self.assertEqual(given.written(0, 1), [k % 256 for k in range(1000)])

    def test_a_write_that_takes_nothing(self):
        given = joined_net()
        given.do(("write", 0, 1, []))
        self.assertEqual((list(given.ledger), given.written(0, 1)), ([(0, 1)], []))

    def test_a_read_that_returns_nothing(self):
        given = joined_net()
        given.do(("read", 0, 1, 0))
        given.do(("read", 1, 1, 9))
        self.assertEqual((list(given.ledger), given.was_read(0, 1)), ([(0, 1), (1, 1)], []))

    def test_a_finish(self):
        given = joined_net()
        given.do(("finish", 1, 1))
        self.assertEqual((list(given.ledger), given.ledger.has_finished(1, 1)), ([(1, 1)], True))
        given.do(("finish", 1, 1))
        self.assertEqual((list(given.ledger), given.ledger.has_finished(1, 1)), ([(1, 1)], True))

    def test_a_finish_that_returns_false_notes_nothing(self):
        given = joined_net()
        given.hosts[0].finish(1)
        self.assertIs(given.do(("finish", 0, 1)), False)
        self.assertEqual((list(given.ledger), given.ledger.has_finished(0, 1)), ([], False))

    def test_deeds_that_raise_and_other_deeds_note_nothing(self):
        given = joined_net()
        for deed in (("write", 0, 2, [1]), ("read", 0, 1, -1), ("read", 0, 3, 1), ("finish", 0, 4)):
            self.assertRaises(ThroughlineError, given.do, deed)
        given.do(("abort", 0, 1))
        for deed in (("write", 0, 1, [1]), ("finish", 0, 1)):
            self.assertRaises(ThroughlineError, given.do, deed)
        deliver_all(given)
        given.do(("release", 0, 1))
        given.do(("tick",))
        self.assertEqual(list(given.ledger), [])

    def test_after_a_release_and_after_a_restart(self):
        given = joined_net()
        given.do(("write", 0, 1, [1, 2]))
        given.do(("write", 1, 1, [3]))
        deliver_all(given)
        given.do(("read", 1, 1, 9))
        given.do(("finish", 1, 1))
        given.do(("abort", 0, 1))
        given.do(("release", 0, 1))
        given.do(("restart", 1))
        self.assertEqual(list(given.ledger), [(0, 1), (1, 1)])
        self.assertEqual((given.written(0, 1), given.was_read(1, 1), given.written(1, 1)), ([1, 2], [1, 2], [3]))
        self.assertIs(given.ledger.has_finished(1, 1), True)
        # The numbers of the next sockets are new ones.
        given.do(("listen", 1, 80, 8))
        self.assertEqual(given.do(("connect", 0, 70, 2, 80)), 2)
        deliver_all(given)
        self.assertEqual(given.do(("accept", 1, 80)), 2)
        self.assertEqual((given.written(0, 2), given.written(1, 2)), ([], []))

    def test_sockets_that_were_never_noted(self):
        given = joined_net()
        self.assertEqual((given.written(0, 9), given.was_read(5, 5), given.written(-1, 1)), ([], [], []))


class HistoryTest(unittest.TestCase):
    def test_the_deeds_with_what_they_returned(self):
        given = net()
        self.assertEqual(list(given.history()), [])
        rows = [(("listen", 1, 80, 8), None), (("connect", 0, 70, 2, 80), 1), (("deliver", 0), None),
                (("deliver", 0), None), (("deliver", 0), None), (("accept", 1, 80), 1),
                (("write", 0, 1, [1, 2]), 2), (("mark", 0), None), (("deliver", 0), None), (("read", 1, 1, 9), [1, 2]), (("tick",), None),
                (("finish", 0, 1), True), (("finish", 0, 1), False), (("lose", 0), None), (("restart", 1), None)]
        for deed, returned in rows:
            self.assertEqual(given.do(deed), returned, deed)
        self.assertEqual(list(given.history()), rows)
        self.assertTrue(inspect.isgeneratorfunction(Net.history))
        self.assertTrue(all(isinstance(pair, tuple) and isinstance(pair[0], tuple) for pair in given.history()))

    def test_deeds_that_raise_are_not_part_of_it(self):
        given = joined_net()
        count = len(deeds(given))
        for deed in ((), ("deliver", 0), ("write", 0, 9, [1]), ("restart", 2)):
            self.assertRaises(ThroughlineError, given.do, deed)
        self.assertEqual(len(deeds(given)), count)

    def test_lists_in_it_that_are_changed_later(self):
        given = joined_net()
        octets = [1, 2]
        given.do(("write", 0, 1, octets))
        octets.append(3)
        deliver_all(given)
        got = given.do(("read", 1, 1, 9))
        got.append(4)
        expected = [(("write", 0, 1, [1, 2]), 2), (("read", 1, 1, 9), [1, 2])]

        def found():
            return [pair for pair in given.history() if pair[0][0] in ("write", "read")]

        self.assertEqual(found(), expected)
        found()[0][0][3].append(5)
        found()[1][1].append(6)
        self.assertEqual(found(), expected)

    def test_it_plays_again(self):
        given = drawn_net(random.Random(108), 300)
        other = net(3, life=12)
        for deed, returned in given.history():
            self.assertEqual(other.do(deed), returned)
        self.assertEqual(frozen(other), frozen(given))

    def test_the_deeds_of_a_run(self):
        given = joined_net()
        given.do(("write", 0, 1, [1, 2, 3]))
        before = len(deeds(given))
        count = run(given, "copy 1", seed=1, ticks=3)
        after = list(given.history())[before:]
        self.assertEqual(len(after), count)
        self.assertTrue(all(returned is None for _, returned in after))
        self.assertEqual([deed for deed, _ in after][:3], [("copy", 0), ("tick",), ("deliver", 0)])


def drawn_deed(draws, given):
    """A deed that is often, but not always, possible."""
    index = draws.randrange(len(given.hosts))
    sockets = given.hosts[index].sockets
    socket = draws.choice(sockets) if sockets else 1
    word = draws.choice(["connect", "listen", "accept", "write", "write", "read", "finish", "abort", "release", "tick",
                         "tick", "deliver", "deliver", "deliver", "deliver", "lose", "copy", "mark"])
    if word == "connect":
        return word, index, draws.randrange(70, 73), draws.randrange(1, 5), draws.randrange(80, 82)
    if word == "listen":
        return word, index, draws.randrange(80, 82), 8
    if word == "accept":
        return word, index, draws.randrange(80, 82)
    if word == "write":
        return word, index, socket, [draws.randrange(256) for _ in range(draws.randrange(300))]
    if word == "read":
        return word, index, socket, draws.randrange(300)
    if word in ("deliver", "lose", "copy", "mark"):
        return word, draws.randrange(len(given.flights) + 1)
    if word == "tick":
        return (word,)
    return word, index, socket


def play_drawn(draws, given, count):
    for _ in range(count):
        try:
            given.do(drawn_deed(draws, given))
        except ThroughlineError:
            pass


def drawn_net(draws, count):
    given = listening_net()
    play_drawn(draws, given, count)
    return given


def listening_net():
    given = net(3, life=12)
    for index in range(3):
        given.do(("listen", index, 80, 8))
    return given


class ForkTest(unittest.TestCase):
    def test_a_fork_is_equal(self):
        for seed in range(5):
            given = drawn_net(random.Random(seed), 150)
            self.assertGreater(len(given.records), 20)
            other = given.fork()
            self.assertIsInstance(other, Net)
            self.assertEqual(frozen(other), frozen(given))

    def test_deeds_on_either_of_the_two_do_not_change_the_other(self):
        for seed in range(8):
            given = drawn_net(random.Random(seed), 120)
            other = given.fork()
            before = frozen(given)
            play_drawn(random.Random(seed + 100), other, 80)
            self.assertNotEqual(frozen(other), before)
            self.assertEqual(frozen(given), before)
            before = frozen(other)
            play_drawn(random.Random(seed + 200), given, 80)
            self.assertEqual(frozen(other), before)

    def test_both_go_on_in_the_same_way(self):
        for seed in range(5):
            given = drawn_net(random.Random(seed), 120)
            other = given.fork()
            play_drawn(random.Random(seed + 300), given, 80)
            play_drawn(random.Random(seed + 300), other, 80)
            self.assertEqual(frozen(other), frozen(given))

    def test_a_fork_of_a_fork_after_runs(self):
        given = joined_net()
        given.do(("write", 0, 1, [1] * 400))
        run(given, "chance 500 delay 2..9", seed=3, ticks=2)
        other = given.fork().fork()
        self.assertEqual(frozen(other), frozen(given))
        self.assertEqual(run(given, "copy 1", seed=3, ticks=9), run(other, "copy 1", seed=3, ticks=9))
        self.assertEqual(frozen(other), frozen(given))


class ModelTest(unittest.TestCase):
    """A second writing of points 93, 94 and 96 over drawn deeds."""

    def test_drawn_deeds(self):
        total = 0
        for seed in range(12):
            draws = random.Random(seed)
            given = listening_net()
            flights, records, number, now = [], [], 0, 0
            for _ in range(250):
                hosts = [host.fork() for host in given.hosts]
                deed = drawn_deed(draws, given)
                sending = []
                try:
                    given.do(deed)
                except ThroughlineError:
                    continue
                word = deed[0]
                if word == "tick":
                    now += 1
                    records += [(now, *flight, "expired") for flight in flights if flight[1] + 12 < now]
                    flights = [flight for flight in flights if flight[1] + 12 >= now]
                    for host in hosts:
                        host.tick(now)
                        sending += host.take()
                elif word in ("deliver", "lose"):
                    flight = flights.pop(deed[1])
                    target = [host for host in hosts if host.address == flight[2].target]
                    if word == "deliver" and target:
                        records.append((now, *flight, "delivered"))
                        target[0].receive(flight[2])
                        sending += target[0].take()
                    else:
                        records.append((now, *flight, "lost"))
                elif word == "copy":
                    flights.append(flights[deed[1]])
                    records.append((now, *flights[-1], "copied"))
                elif word == "mark":
                    flight = flights[deed[1]]
                    flights[deed[1]] = (flight[0], flight[1], flight[2].with_mark())
                    records.append((now, *flights[deed[1]], "marked"))
                elif word == "listen":
                    hosts[deed[1]].listen(deed[2], backlog=deed[3])
                else:
                    getattr(hosts[deed[1]], word)(*deed[2:])
                    sending += hosts[deed[1]].take()
                for packet in sending:
                    flights.append((number, now, packet))
                    records.append((now, *flights[-1], "sent"))
                    number += 1
                self.assertEqual([(flight.number, flight.birth, flight.packet) for flight in given.flights], flights)
                self.assertEqual(frozen(given.hosts), frozen(hosts))
                self.assertEqual(given.now, now)
            self.assertEqual([(record.tick, record.number, record.word, record.packet) for record in given.records],
                             [(tick, at, word, packet) for tick, at, _, packet, word in records])
            total += len(records)
        self.assertGreater(total, 1000)


if __name__ == "__main__":
    unittest.main()
