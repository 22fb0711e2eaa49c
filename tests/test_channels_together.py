"""Two sides of channels, whatever their calls and however their octets are cut (point 120)."""

import random
import unittest

from tests.channels import frames_of, side
from tests.frozen import frozen


class Pair:
    """Two sides with the octets between them, and what was written, read, finished and reset on each."""

    def __init__(self, case, draws):
        self.case, self.draws = case, draws
        windows = [draws.choice([1, 2, 3, 7, 20, 300, 65535]) for _ in range(2)]
        mosts = [draws.choice([1, 2, 5, 64, 65535]) for _ in range(2)]
        self.sides = [side(at == 0, windows[at], mosts[at]) for at in range(2)]
        # All that a side has handed out, and how much of it the other side has received.
        self.handed = [[], []]
        self.received = [0, 0]
        self.written, self.read = [{}, {}], [{}, {}]
        # The codes with which each side has reset channels.
        self.resets = [{}, {}]
        self.accepted = [[], []]
        self.opened = [[], []]

    def step(self, close):
        draws, me = self.draws, self.draws.randrange(2)
        given = self.sides[me]
        numbers = list(given)
        word = draws.choice(["open"] + ["write"] * 5 + ["read"] * 6 + ["take"] * 8 + ["receive"] * 8 + ["accept"]
                            + ["finish", "reset"] * close)
        if word == "open" and len(numbers) < 12:
            self.opened[me].append(given.open_channel())
        elif word == "take":
            self.take(me, draws.choice([0, 1, 2, 3, 4, 5, 7, 40, 100000]))
        elif word == "receive":
            self.receive(me, draws.choice([0, 1, 2, 3, 4, 5, 6, 40, 100000]))
        elif word == "accept":
            number = given.accept()
            if number is not None:
                self.accepted[me].append(number)
        elif numbers:
            self.call(me, word, draws.choice(numbers))

    def call(self, me, word, number):
        draws, given = self.draws, self.sides[me]
        if word == "write":
            octets = [draws.randrange(256) for _ in range(draws.choice([0, 1, 2, 9, 50, 400]))]
            room = given.status(number)["writable"]
            taken = given.write(number, octets)
            self.case.assertEqual(taken, min(room, len(octets)))
            self.written[me].setdefault(number, []).extend(octets[:taken])
        elif word == "read":
            got = given.read(number, draws.choice([0, 1, 3, 30, 500]))
            self.read[me].setdefault(number, []).extend(got)
        elif word == "finish":
            given.finish(number)
        else:
            code = draws.randrange(65536)
            if given.status(number)["reset"] is None:
                self.resets[me][number] = code
            given.reset(number, code)

    def take(self, me, count):
        octets = self.sides[me].take(count)
        self.case.assertLessEqual(len(octets), count)
        self.handed[me] += octets
        return len(octets)

    def receive(self, me, count):
        """Receives a part of what the other side has handed out."""
        other = 1 - me
        octets = self.handed[other][self.received[other]:][:count]
        self.sides[me].receive(octets)
        self.received[other] += len(octets)
        return len(octets)

    def under_way(self, me):
        """The octets of each channel that a side has made frames of, and that the other side has not taken yet.

        Those that a fork of the side makes frames of now belong to the queue."""
        rest = self.sides[me].fork()
        drained = []
        while True:
            octets = rest.take(100000)
            drained += octets
            if not octets:
                break
        whole, taken = frames_of(self.handed[me] + drained), {}
        at = 0
        for frame in whole:
            at += {"open": 3, "end": 3, "permit": 5, "reset": 5, "octets": 5}[frame[0]]
            if frame[0] == "octets":
                at += len(frame[2])
                if at > self.received[me]:
                    taken.setdefault(frame[1], []).extend(frame[2])
        return taken, rest

    def check(self):
        case = self.case
        for me in range(2):
            given, other = self.sides[me], self.sides[1 - me]
            case.assertIsNone(given.failure)
            under_way, rest = self.under_way(1 - me)
            for number in list(given):
                status = given.status(number)
                written, read = self.written[1 - me].get(number, []), self.read[me].get(number, [])
                case.assertEqual(read, written[:len(read)])
                other_status = other.status(number) if number in list(other) else None
                broken = [status["reset"], other_status and other_status["reset"]]
                if broken == [None, None]:
                    ready = given.fork().read(number, 100000)
                    known = read + ready + under_way.get(number, [])
                    waiting = rest.status(number)["waiting"] if other_status else 0
                    case.assertEqual(written[:len(known)], known)
                    case.assertEqual(len(written), len(known) + waiting)
                if status["at_end"]:
                    case.assertEqual((read, other_status["finished"]), (written, True))
                if status["reset"] is not None and status["reset"][0] == "there":
                    case.assertEqual(status["reset"][1], self.resets[1 - me][number])
                if status["reset"] is not None and status["reset"][0] == "here":
                    case.assertEqual(status["reset"][1], self.resets[me][number])

    def settle(self):
        """Hands out, receives and reads everything."""
        moved = 1
        while moved:
            moved = 0
            for me in range(2):
                moved += self.take(me, self.draws.choice([1, 5, 100, 100000]))
                moved += self.receive(me, self.draws.choice([1, 5, 100, 100000]))
                for number in list(self.sides[me]):
                    got = self.sides[me].read(number, 100000)
                    moved += len(got)
                    self.read[me].setdefault(number, []).extend(got)

    def check_settled(self):
        case = self.case
        case.assertEqual(list(self.sides[0]), list(self.sides[1]))
        for me in range(2):
            given, other = self.sides[me], self.sides[1 - me]
            for number in list(given):
                status, there = given.status(number), other.status(number)
                if status["reset"] is None and there["reset"] is None:
                    case.assertEqual(status["waiting"], 0)
                    case.assertEqual(self.read[1 - me].get(number, []), self.written[me].get(number, []))
                    case.assertIs(there["at_end"], status["finished"])
                else:
                    # Both know of it, even if both have reset it.
                    case.assertIsNotNone(status["reset"])
                    case.assertIsNotNone(there["reset"])


class TogetherTest(unittest.TestCase):
    def test_rows_of_calls(self):
        octets, resets = 0, 0
        for seed in range(60):
            pair = Pair(self, random.Random(seed))
            for at in range(220):
                pair.step(close=int(at > 60 and seed % 3 > 0))
                pair.check()
            pair.settle()
            pair.check()
            pair.check_settled()
            octets += sum(len(got) for side_read in pair.read for got in side_read.values())
            resets += len(pair.resets[0]) + len(pair.resets[1])
            for me in range(2):
                accepted = pair.accepted[me]
                while True:
                    number = pair.sides[me].accept()
                    if number is None:
                        break
                    accepted.append(number)
                self.assertEqual(accepted, pair.opened[1 - me])
        self.assertGreater(octets, 10000)
        self.assertGreater(resets, 100)

    def test_they_go_on_behind_each_settling(self):
        for seed in range(12):
            pair = Pair(self, random.Random(seed + 500))
            for row in range(6):
                for _ in range(40):
                    pair.step(close=int(row == 5))
                pair.settle()
                pair.check()
                pair.check_settled()

    def test_both_reset_one_channel(self):
        for order in ((0, 1), (1, 0)):
            pair = Pair(self, random.Random(1))
            pair.opened[0].append(pair.sides[0].open_channel())
            pair.settle()
            for me in order:
                pair.call(me, "reset", 1)
            pair.settle()
            pair.check()
            self.assertEqual([given.status(1)["reset"][0] for given in pair.sides], ["here", "here"])

    def test_what_is_cut_in_any_way_does_the_same(self):
        for seed in range(10):
            draws = random.Random(seed)
            pair = Pair(self, draws)
            for _ in range(120):
                pair.step(close=1)
            for me in range(2):
                octets = pair.handed[1 - me][pair.received[1 - me]:]
                whole, parts, at = pair.sides[me].fork(), pair.sides[me].fork(), 0
                whole.receive(octets)
                while at < len(octets):
                    stop = at + draws.choice([0, 1, 2, 3, 8, 90])
                    parts.receive(octets[at:stop])
                    at = stop
                self.assertEqual(frozen(parts), frozen(whole))


if __name__ == "__main__":
    unittest.main()
