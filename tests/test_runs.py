"""Runs (points 104 to 107)."""

import random
import unittest

from tests.frozen import frozen
from tests.nets import deeds, deliver_all, flights, joined_net, net, words
from throughline.errors import InvalidAmount, InvalidScript
from throughline.net.faults import Faults, Verdict
from throughline.net.runs import Player, run
from throughline.net.scripts import parse_script


def lone_net(count=1, **changed):
    """A net with so many SYNs under way from the host 0 to the host 1, on which nobody listens."""
    given = net(**changed)
    for at in range(count):
        given.do(("connect", 0, 70 + at, 2, 80))
    return given


def of_run(given, script, *, seed=1, ticks=0):
    """The deeds of a run."""
    before = len(deeds(given))
    count = run(given, script, seed=seed, ticks=ticks)
    found = deeds(given)[before:]
    assert count == len(found)
    return found


class ArgumentsTest(unittest.TestCase):
    def test_wrong_scripts(self):
        given = lone_net()
        before = frozen(given)
        for script, place in (("lose; jump", (1, 7, "a choice or a fault")), ("delay 0", (1, 7, "a delay of at least 1")),
                              ("mark\nfrom 1", (2, 6, "a fault"))):
            with self.assertRaises(InvalidScript) as caught:
                run(given, script, seed=1, ticks=1)
            self.assertEqual((caught.exception.line, caught.exception.column, caught.exception.expected), place)
        self.assertEqual(frozen(given), before)

    def test_seeds_and_ticks(self):
        for seed in (0, 4294967295):
            for ticks in (0, 1000):
                given = net()
                self.assertEqual(run(given, "", seed=seed, ticks=ticks), ticks)
                self.assertEqual(given.now, ticks)
        given = lone_net()
        before = frozen(given)
        for seed, ticks in ((-1, 1), (4294967296, 1), (0, -1), (0, 1001), (-1, -1), (4294967296, 5000)):
            with self.assertRaises(InvalidAmount):
                run(given, "", seed=seed, ticks=ticks)
        self.assertEqual(frozen(given), before)

    def test_the_script_is_looked_at_first(self):
        for seed, ticks in ((-1, 1), (4294967296, 1), (0, -1), (0, 1001)):
            self.assertRaises(InvalidScript, run, net(), "jump", seed=seed, ticks=ticks)


class FaultsTest(unittest.TestCase):
    def test_no_faults(self):
        given = lone_net()
        self.assertEqual(of_run(given, "", ticks=3),
                         [("tick",), ("deliver", 0), ("tick",), ("deliver", 0), ("tick",)])
        self.assertEqual(words(given), [(0, 0, "sent"), (1, 0, "delivered"), (1, 1, "sent"), (2, 1, "delivered")])
        self.assertEqual(given.hosts[0].status(1)["cause"], "refused")

    def test_losses(self):
        self.assertEqual(of_run(lone_net(), "lose", ticks=2), [("lose", 0), ("tick",), ("tick",)])
        self.assertEqual(of_run(lone_net(3), "nth 2 lose", ticks=0), [("lose", 1)])

    def test_marks(self):
        given = lone_net()
        self.assertEqual(of_run(given, "mark", ticks=1), [("mark", 0), ("tick",), ("deliver", 0), ("mark", 0)])
        self.assertEqual([record.packet.marked for record in given.records], [False, True, True, False, True])

    def test_copies(self):
        given = lone_net()
        self.assertEqual(of_run(given, "from 1 copy 2", ticks=1),
                         [("copy", 0), ("copy", 0), ("tick",), ("deliver", 0), ("deliver", 0), ("deliver", 0)])
        self.assertEqual(flights(given), [(1, 1), (2, 1), (3, 1)])

    def test_a_packet_that_is_marked_copied_and_late(self):
        given = lone_net()
        self.assertEqual(of_run(given, "from 1 mark; from 1 copy 1; from 1 delay 3", ticks=3),
                         [("mark", 0), ("copy", 0), ("tick",), ("tick",), ("tick",), ("deliver", 0), ("deliver", 0)])

    def test_a_lost_packet_is_not_marked_and_not_copied(self):
        self.assertEqual(of_run(lone_net(), "mark; copy 3; lose", ticks=1), [("lose", 0), ("tick",)])

    def test_delays(self):
        for delay in (1, 2, 7):
            given = lone_net()
            found = of_run(given, f"from 1 delay {delay}", ticks=delay)
            self.assertEqual(found, [("tick",)] * delay + [("deliver", 0)])

    def test_late_packets_change_their_order(self):
        given = lone_net(3)
        of_run(given, "from 1 nth 2 delay 3; from 2 lose", ticks=3)
        self.assertEqual([record.number for record in given.records if record.word == "delivered"], [0, 2, 1])

    def test_draws_go_on_over_the_whole_run(self):
        given = joined_net()
        given.do(("write", 0, 1, [5] * 1000))
        found = of_run(given, "chance 500 lose", seed=9, ticks=60)
        faults = Faults(parse_script("chance 500 lose"), seed=9)
        sent = [record for record in given.records if record.word == "sent" and record.number >= 3]
        lost = [record.number for record in sent if faults.judge(1, 2, record.tick).lost]
        self.assertGreater(len(lost), 3)
        self.assertEqual([record.number for record in given.records if record.word == "lost"], lost)
        self.assertEqual(len([deed for deed in found if deed[0] == "lose"]), len(lost))

    def test_ticks_of_a_script_are_births(self):
        given = lone_net(2)
        given.do(("tick",))
        given.do(("connect", 0, 72, 2, 80))
        self.assertEqual(of_run(given, "ticks 1 lose"), [("lose", 2)])


class BeginningTest(unittest.TestCase):
    def test_what_is_under_way_is_decided_before_the_first_tick(self):
        given = lone_net(3)
        self.assertEqual(of_run(given, "mark"), [("mark", 0), ("mark", 1), ("mark", 2)])
        self.assertEqual(given.now, 0)

    def test_several_flights_with_one_number(self):
        given = lone_net(2)
        given.do(("copy", 0))
        # Each is judged by itself, and each deed is for the first flight with the number.
        self.assertEqual(of_run(given, "nth 3 lose"), [("lose", 0)])
        self.assertEqual(flights(given), [(1, 0), (0, 0)])
        given = lone_net(2)
        given.do(("copy", 0))
        self.assertEqual(of_run(given, "nth 3 mark"), [("mark", 0)])
        given = lone_net(1)
        given.do(("copy", 0))
        self.assertEqual(of_run(given, "from 1 copy 1", ticks=1),
                         [("copy", 0), ("copy", 0), ("tick",)] + [("deliver", 0)] * 4)

    def test_a_delay_that_has_ended(self):
        given = lone_net()
        for _ in range(5):
            given.do(("tick",))
        self.assertEqual(of_run(given, "delay 3", ticks=2)[:3], [("tick",), ("deliver", 0), ("tick",)])

    def test_a_delay_that_ends_at_the_present_tick(self):
        given = lone_net()
        for _ in range(3):
            given.do(("tick",))
        self.assertEqual(of_run(given, "delay 4", ticks=1), [("tick",), ("deliver", 0)])
        given = lone_net()
        for _ in range(3):
            given.do(("tick",))
        self.assertEqual(of_run(given, "delay 5", ticks=1), [("tick",)])

    def test_the_order_of_the_ticks_at_which_numbers_are_due(self):
        given = lone_net(2)
        given.do(("tick",))
        given.do(("connect", 0, 75, 2, 80))
        for _ in range(4):
            given.do(("tick",))
        # The numbers 0, 1 and 2 are due at the ticks 4, 1 and 2, all of them in the past.
        given_delays = "ticks 0 nth 2 delay 1; ticks 1 delay 1; ticks 0 nth 1 delay 4; ticks 0 nth 2 delay 1"
        of_run(given, given_delays, ticks=1)
        delivered = [(record.tick, record.number) for record in given.records if record.word == "delivered"]
        self.assertEqual(delivered, [(6, 1), (6, 2), (6, 0)])


class DueTest(unittest.TestCase):
    def test_what_is_sent_by_a_tick_is_decided_ahead_of_deliveries(self):
        given = lone_net()
        given.do(("lose", 0))
        while given.now < 39:
            given.do(("tick",))
        given.do(("connect", 0, 90, 2, 80))
        # At the tick 40 the SYN of the first socket is repeated.
        self.assertEqual(of_run(given, "from 1 mark", ticks=1), [("mark", 0), ("tick",), ("mark", 1), ("deliver", 0)])

    def test_what_a_delivery_sends_is_decided_at_once(self):
        given = lone_net(2)
        self.assertEqual(of_run(given, "from 2 lose", ticks=1),
                         [("tick",), ("deliver", 0), ("lose", 1), ("deliver", 0), ("lose", 0)])

    def test_numbers_that_become_due_by_a_delivery_of_the_same_tick(self):
        class EarlyAnswers:
            """No script has delays below 1; here, answers are due at the tick of their birth, or earlier."""

            def __init__(self, delay):
                self.delay = delay

            def judge(self, sender, target, birth):
                return Verdict(delay=self.delay if sender == 2 else 1)

        # The first answer is due behind the second packet of the host 0 at the same tick, or at a tick ahead of it.
        for delay, numbers in ((0, [0, 1, 2, 3]), (-1, [0, 2, 1, 3])):
            given = joined_net(ack_delay=0)
            given.do(("write", 0, 1, [1]))
            given.do(("write", 0, 1, [2]))
            first, before = given.flights.at(0).number, len(given.records)
            player = Player(given, EarlyAnswers(delay))
            player.decide_all()
            player.play_tick()
            delivered = [record for record in given.records[before:] if record.word == "delivered"]
            self.assertEqual([(record.tick, record.number - first) for record in delivered],
                             [(1, number) for number in numbers])
            self.assertEqual((player.deeds, len(given.flights)), (5, 0))

    def test_a_number_whose_flights_have_expired(self):
        given = lone_net(life=3)
        self.assertEqual(of_run(given, "from 1 copy 1; from 1 delay 4", ticks=5), [("copy", 0)] + [("tick",)] * 5)
        self.assertEqual([record.word for record in given.records], ["sent", "copied", "expired", "expired"])
        given = lone_net(life=4)
        self.assertEqual(of_run(given, "from 1 delay 4", ticks=4)[-1], ("deliver", 0))

    def test_a_delay_of_the_life_is_just_in_time(self):
        given = joined_net(life=20)
        given.do(("write", 0, 1, [1, 2]))
        run(given, "delay 20", seed=1, ticks=20)
        self.assertEqual(given.do(("read", 1, 1, 9)), [1, 2])
        self.assertNotIn("expired", [record.word for record in given.records])

    def test_a_number_that_was_sent_before_the_run_is_not_decided_again(self):
        given = lone_net(2)
        faults = of_run(given, "from 1 mark", ticks=3)
        self.assertEqual([deed for deed in faults if deed[0] == "mark"], [("mark", 0), ("mark", 1)])

    def test_the_number_of_deeds(self):
        self.assertEqual(run(net(), "", seed=1, ticks=0), 0)
        self.assertEqual(run(net(), "", seed=1, ticks=17), 17)
        self.assertEqual(run(lone_net(), "from 1 copy 9", seed=1, ticks=0), 9)

    def test_a_second_run_decides_anew_what_is_under_way(self):
        given = lone_net()
        self.assertEqual(of_run(given, "delay 9", ticks=2), [("tick",), ("tick",)])
        self.assertEqual(of_run(given, "", ticks=0), [])
        self.assertEqual(of_run(given, "mark", ticks=0), [("mark", 0)])
        self.assertEqual(of_run(given, "copy 1", ticks=0), [("copy", 0)])
        # The birth is still the tick 0, and the counts of the rules begin anew.
        self.assertEqual(of_run(given, "nth 2 lose", ticks=0), [("lose", 0)])
        self.assertEqual(of_run(given, "from 1 delay 3", ticks=1)[:2], [("tick",), ("deliver", 0)])

    def test_a_run_ends_with_what_is_under_way(self):
        given = lone_net()
        run(given, "delay 5", seed=1, ticks=4)
        self.assertEqual(flights(given), [(0, 0)])
        given.do(("tick",))
        given.do(("tick",))
        self.assertEqual(flights(given), [(0, 0)])

    def test_the_arguments_are_left_alone(self):
        given = joined_net()
        other = given.fork()
        for one in (given, other):
            one.do(("write", 0, 1, [1] * 500))
        self.assertEqual(run(given, "chance 300 lose; delay 1..4", seed=7, ticks=50),
                         run(other, "chance 300 lose; delay 1..4", seed=7, ticks=50))
        self.assertEqual(frozen(given), frozen(other))


class Model:
    """A second writing of points 104 to 106: it does the deeds of a run."""

    def __init__(self, given, script, seed):
        self.net = given
        self.faults = Faults(parse_script(script), seed=seed)
        self.due = []
        self.came = 0
        self.decided = given.flights.next_number
        for number, birth, packet in self.under_way():
            self.decide(number, birth, packet)

    def under_way(self):
        return [(flight.number, flight.birth, flight.packet) for flight in self.net.flights]

    def position(self, number):
        return [at for at, flight in enumerate(self.under_way()) if flight[0] == number][0]

    def decide(self, number, birth, packet):
        verdict = self.faults.judge(packet.sender, packet.target, birth)
        if verdict.lost:
            self.net.do(("lose", self.position(number)))
            return
        if verdict.marked:
            self.net.do(("mark", self.position(number)))
        for _ in range(verdict.copies):
            self.net.do(("copy", self.position(number)))
        for _ in range(verdict.copies + 1):
            self.due.append((birth + verdict.delay, self.came, number))
            self.came += 1

    def decide_new(self):
        for number, birth, packet in self.under_way():
            if number >= self.decided:
                self.decided = number + 1
                self.decide(number, birth, packet)

    def tick(self):
        self.net.do(("tick",))
        self.decide_new()
        while True:
            ready = sorted(entry for entry in self.due if entry[0] <= self.net.now)
            if not ready:
                break
            self.due.remove(ready[0])
            if ready[0][2] in [flight[0] for flight in self.under_way()]:
                self.net.do(("deliver", self.position(ready[0][2])))
                self.decide_new()


SCRIPTS = [
    "", "chance 200 lose", "chance 300 delay 1..9", "chance 200 copy 2; chance 100 lose; delay 2..5",
    "nth 3 lose; nth 4 mark; nth 5 copy 1", "from 1 delay 1..30; to 1 chance 500 delay 2",
    "ticks 0..10 chance 700 lose; ticks 11..20 mark; chance 400 copy 3", "delay 40", "delay 1..40; chance 100 mark",
]


class ModelTest(unittest.TestCase):
    def test_runs_over_drawn_states(self):
        for seed in range(36):
            draws = random.Random(seed)
            given = joined_net(3, life=20, tries=20)
            other = given.fork()
            for _ in range(draws.randrange(1, 4)):
                script, number, ticks = draws.choice(SCRIPTS), draws.randrange(4294967296), draws.randrange(40)
                octets = [draws.randrange(256) for _ in range(draws.randrange(600))]
                more = []
                for _ in range(draws.randrange(4)):
                    more.append(draws.choice([("tick",), ("copy", 0), ("write", 1, 1, octets), ("mark", 0),
                                              ("read", 1, 1, 200)]))
                for one in (given, other):
                    one.do(("write", 0, 1, octets))
                    for deed in more:
                        if len(deed) != 2 or len(one.flights) > 0:
                            one.do(deed)
                before = len(deeds(given))
                count = run(given, script, seed=number, ticks=ticks)
                model = Model(other, script, number)
                for _ in range(ticks):
                    model.tick()
                self.assertEqual(deeds(given), deeds(other))
                self.assertEqual(len(deeds(given)) - before, count)
            self.assertEqual(frozen(given), frozen(other))


if __name__ == "__main__":
    unittest.main()
