import random
import unittest

from throughline.net.faults import Faults, Verdict
from throughline.net.rules import Rule
from throughline.net.seeds import draw


def judged(rules, packets, seed=1):
    """The verdicts of packets, and the counts and the seed behind them."""
    faults = Faults(rules, seed=seed)
    return [faults.judge(*packet) for packet in packets], faults.counts, faults.seed


def drawn(seed, *belows):
    numbers = []
    for below in belows:
        seed, number = draw(seed, below)
        numbers.append(number)
    return seed, numbers


ONE = [(1, 2, 3)]


class VerdictTest(unittest.TestCase):
    def test_fields(self):
        verdict = Verdict()
        self.assertEqual((verdict.lost, verdict.marked, verdict.copies, verdict.delay), (False, False, 0, 1))
        verdict = Verdict(lost=True, marked=True, copies=3, delay=9)
        self.assertEqual((verdict.lost, verdict.marked, verdict.copies, verdict.delay), (True, True, 3, 9))

    def test_equality(self):
        values = dict(lost=True, marked=True, copies=3, delay=9)
        self.assertTrue(Verdict(**values) == Verdict(**values))
        self.assertFalse(Verdict(**values) != Verdict(**values))
        for name, other in (("lost", False), ("marked", False), ("copies", 2), ("delay", 8)):
            self.assertFalse(Verdict(**values) == Verdict(**{**values, name: other}))
        for other in (None, (True, True, 3, 9), 0):
            self.assertFalse(Verdict(**values) == other)

    def test_arrivals(self):
        self.assertEqual([Verdict(copies=copies).arrivals for copies in (0, 1, 9)], [1, 2, 10])
        self.assertEqual([Verdict(lost=True, copies=copies).arrivals for copies in (0, 9)], [0, 0])


class FaultsTest(unittest.TestCase):
    def test_no_rules(self):
        self.assertEqual(judged([], ONE, 77), ([Verdict()], [], 77))

    def test_each_fault(self):
        for rule, verdict in ((Rule("lose"), Verdict(lost=True)), (Rule("mark"), Verdict(marked=True)),
                              (Rule("copy", amount=4), Verdict(copies=4)),
                              (Rule("delay", amount=7, until=7), Verdict(delay=7))):
            self.assertEqual(judged([rule], ONE, 77), ([verdict], [1], 77))

    def test_a_delay_that_is_drawn(self):
        faults, seed = Faults([Rule("delay", amount=5, until=9)], seed=3), 3
        found = []
        for _ in range(60):
            seed, number = draw(seed, 5)
            verdict = faults.judge(1, 2, 3)
            self.assertEqual((verdict, faults.seed), (Verdict(delay=5 + number), seed))
            found.append(verdict.delay)
        self.assertEqual(set(found), {5, 6, 7, 8, 9})

    def test_a_delay_with_equal_ends_draws_nothing(self):
        self.assertEqual(judged([Rule("delay", amount=5, until=5)], ONE * 4, 3)[2], 3)

    def test_the_choices_from_to_and_ticks(self):
        rule = Rule("lose", sender=1, target=2, ticks=(3, 5))
        packets = [(1, 2, 3), (1, 2, 5), (1, 2, 6), (1, 2, 2), (0, 2, 3), (1, 3, 3)]
        self.assertEqual(judged([rule], packets), ([Verdict(lost=True)] * 2 + [Verdict()] * 4, [2], 1))

    def test_every_nth(self):
        for nth in (1, 2, 3):
            found, counts, seed = judged([Rule("lose", nth=nth)], ONE * 9, 5)
            self.assertEqual([verdict.lost for verdict in found], [count % nth == 0 for count in range(1, 10)])
            self.assertEqual((counts, seed), ([9], 5))

    def test_only_packets_that_are_considered_are_counted(self):
        packets = [(1, 0, 0), (2, 0, 0), (1, 0, 0), (2, 0, 0), (2, 0, 0), (1, 0, 0), (1, 0, 0)]
        found, counts, _ = judged([Rule("lose", nth=2, sender=1)], packets)
        self.assertEqual([verdict.lost for verdict in found], [False, False, True, False, False, False, True])
        self.assertEqual(counts, [4])

    def test_a_chance_of_0_and_of_1000(self):
        for chance, lost in ((0, False), (1000, True)):
            seed, _ = drawn(9, *[1000] * 50)
            self.assertEqual(judged([Rule("lose", chance=chance)], ONE * 50, 9),
                             ([Verdict(lost=lost)] * 50, [50], seed))

    def test_a_chance(self):
        seed, numbers = drawn(9, *[1000] * 50)
        found, counts, last = judged([Rule("lose", chance=300)], ONE * 50, 9)
        self.assertEqual([verdict.lost for verdict in found], [number < 300 for number in numbers])
        self.assertEqual((counts, last), ([50], seed))

    def test_the_number_must_be_less_than_the_chance(self):
        # The first number that is drawn from the seed 0 is 236.
        self.assertEqual(drawn(0, 1000)[1], [236])
        self.assertFalse(judged([Rule("lose", chance=236)], ONE, 0)[0][0].lost)
        self.assertTrue(judged([Rule("lose", chance=237)], ONE, 0)[0][0].lost)
        for seed in range(0, 4294967296, 50000017):
            _, (number,) = drawn(seed, 1000)
            found = [judged([Rule("lose", chance=chance)], ONE, seed)[0][0].lost for chance in (number, number + 1)]
            self.assertEqual(found, [False, True])

    def test_nth_comes_before_the_chance(self):
        seed, numbers = drawn(9, *[1000] * 10)
        found, counts, last = judged([Rule("lose", nth=3, chance=400)], ONE * 30, 9)
        expected = [count % 3 == 0 and numbers[count // 3 - 1] < 400 for count in range(1, 31)]
        self.assertEqual([verdict.lost for verdict in found], expected)
        self.assertEqual((counts, last), ([30], seed))

    def test_the_delay_is_drawn_behind_the_chance(self):
        seed, numbers = drawn(9, 1000, 6, 1000, 6)
        found, _, last = judged([Rule("delay", amount=5, until=10, chance=1000)], ONE * 2, 9)
        self.assertEqual(([verdict.delay for verdict in found], last), ([5 + numbers[1], 5 + numbers[3]], seed))
        self.assertEqual(judged([Rule("delay", amount=5, until=10, chance=0)], ONE, 9)[2], drawn(9, 1000)[0])

    def test_several_rules_apply_to_one_packet(self):
        rules = [Rule("copy", amount=2), Rule("lose"), Rule("mark"), Rule("copy", amount=3),
                 Rule("delay", amount=4, until=4), Rule("delay", amount=6, until=6), Rule("lose"), Rule("mark")]
        self.assertEqual(judged(rules, ONE), ([Verdict(lost=True, marked=True, copies=5, delay=6)], [1] * 8, 1))

    def test_rules_behind_a_loss_draw_and_count(self):
        rules = [Rule("lose"), Rule("mark", chance=500), Rule("delay", amount=1, until=3, nth=2)]
        seed, _ = drawn(4, 1000, 1000, 3)
        found, counts, last = judged(rules, ONE * 2, 4)
        self.assertEqual((counts, last), ([2, 2, 2], seed))
        self.assertTrue(all(verdict.lost for verdict in found))

    def test_each_rule_has_its_own_count(self):
        rules = [Rule("lose", nth=2), Rule("mark", nth=3), Rule("copy", amount=1, sender=5, nth=1)]
        found, counts, _ = judged(rules, ONE * 6)
        self.assertEqual([(verdict.lost, verdict.marked, verdict.copies) for verdict in found],
                         [(count % 2 == 0, count % 3 == 0, 0) for count in range(1, 7)])
        self.assertEqual(counts, [6, 6, 0])

    def test_a_list_of_rules_that_is_changed_later(self):
        rules = [Rule("lose", chance=1000), Rule("mark")]
        faults = Faults(rules, seed=1)
        rules[0].chance = 0
        rules[1] = Rule("copy", amount=1)
        rules.append(Rule("copy", amount=2))
        self.assertEqual(faults.judge(1, 2, 3), Verdict(lost=True, marked=True))
        self.assertEqual(faults.counts, [1, 1])

    def test_the_rules_are_not_changed(self):
        rules = [Rule("delay", amount=1, until=5, nth=2, chance=300)]
        judged(rules, ONE * 9)
        self.assertEqual(rules, [Rule("delay", amount=1, until=5, nth=2, chance=300)])

    def test_each_verdict_is_new(self):
        faults = Faults([Rule("copy", amount=1)], seed=0)
        one = faults.judge(1, 2, 3)
        one.copies = 50
        self.assertEqual(faults.judge(1, 2, 3), Verdict(copies=1))

    def test_the_fields_at_the_beginning(self):
        faults = Faults([Rule("lose"), Rule("mark")], seed=4294967295)
        self.assertEqual((faults.seed, faults.counts), (4294967295, [0, 0]))

    def test_rows_of_packets(self):
        draws = random.Random(102)
        for seed in range(40):
            rules = []
            for _ in range(draws.randrange(1, 5)):
                low = draws.randrange(1, 5)
                fault, amount, until = draws.choice([("lose", 0, 0), ("mark", 0, 0), ("copy", low, 0),
                                                     ("delay", low, low + draws.randrange(4))])
                rules.append(Rule(fault, amount=amount, until=until, sender=draws.choice([None, 1, 2]),
                                  target=draws.choice([None, 1, 2]), ticks=draws.choice([None, (2, 6)]),
                                  nth=draws.choice([None, 1, 2, 3]), chance=draws.choice([None, 0, 300, 1000])))
            packets = [(draws.choice([1, 2]), draws.choice([1, 2]), draws.randrange(9)) for _ in range(60)]
            self.assertEqual(judged(rules, packets, seed), self.model(rules, packets, seed))

    def model(self, rules, packets, seed):
        counts, found = [0] * len(rules), []
        for sender, target, birth in packets:
            lost, marked, copies, delay = False, False, 0, 1
            for at, rule in enumerate(rules):
                if rule.sender not in (None, sender) or rule.target not in (None, target):
                    continue
                if rule.ticks and not rule.ticks[0] <= birth <= rule.ticks[1]:
                    continue
                counts[at] += 1
                if counts[at] % (rule.nth or 1):
                    continue
                if rule.chance is not None:
                    seed, number = draw(seed, 1000)
                    if number >= rule.chance:
                        continue
                lost, marked = lost or rule.fault == "lose", marked or rule.fault == "mark"
                copies += rule.amount if rule.fault == "copy" else 0
                if rule.fault == "delay":
                    number = 0
                    if rule.until > rule.amount:
                        seed, number = draw(seed, rule.until - rule.amount + 1)
                    delay = rule.amount + number
            found.append(Verdict(lost=lost, marked=marked, copies=copies, delay=delay))
        return found, counts, seed


if __name__ == "__main__":
    unittest.main()
