import itertools
import unittest

from throughline.net.rules import Rule, format_rule
from throughline.net.scripts import parse_script

FIELDS = ("fault", "amount", "until", "sender", "target", "ticks", "nth", "chance")


def fields(rule):
    return tuple(getattr(rule, name) for name in FIELDS)


class RuleTest(unittest.TestCase):
    def test_fields(self):
        self.assertEqual(fields(Rule("lose")), ("lose", 0, 0, None, None, None, None, None))
        rule = Rule("delay", amount=3, until=9, sender=1, target=2, ticks=(4, 5), nth=6, chance=7)
        self.assertEqual(fields(rule), ("delay", 3, 9, 1, 2, (4, 5), 6, 7))

    def test_equality(self):
        values = dict(amount=3, until=9, sender=1, target=2, ticks=(4, 5), nth=6, chance=7)
        rule = Rule("delay", **values)
        self.assertTrue(rule == Rule("delay", **values))
        self.assertFalse(rule != Rule("delay", **values))
        self.assertFalse(rule == Rule("copy", **values))
        for name, value in values.items():
            for other in ((5, 4), None) if name == "ticks" else (value + 1, None):
                self.assertFalse(rule == Rule("delay", **{**values, name: other}))
                self.assertTrue(rule != Rule("delay", **{**values, name: other}))
        for other in (None, "delay 3..9", fields(rule), 0):
            self.assertFalse(rule == other)

    def test_a_fork(self):
        for rule in (Rule("mark"), Rule("delay", amount=3, until=9, sender=1, target=2, ticks=(4, 5), nth=6, chance=7)):
            other = rule.fork()
            self.assertEqual(other, rule)
            other.chance = 1000
            self.assertNotEqual(other, rule)


class ConsidersTest(unittest.TestCase):
    def test_no_choices(self):
        for place in ((0, 0, 0), (65535, 1, 10 ** 9)):
            self.assertIs(Rule("lose").considers(*place), True)

    def test_the_sender(self):
        for sender in (0, 5, 65535):
            rule = Rule("lose", sender=sender)
            self.assertIs(rule.considers(sender, 9, 9), True)
            self.assertIs(rule.considers(sender + 1, 9, 9), False)
            self.assertIs(rule.considers(sender - 1, sender, sender), False)

    def test_the_target(self):
        for target in (0, 5, 65535):
            rule = Rule("lose", target=target)
            self.assertIs(rule.considers(9, target, 9), True)
            self.assertIs(rule.considers(9, target + 1, 9), False)
            self.assertIs(rule.considers(target, target - 1, target), False)

    def test_the_ticks(self):
        rule = Rule("lose", ticks=(3, 20))
        self.assertEqual([birth for birth in range(30) if rule.considers(1, 2, birth)], list(range(3, 21)))
        rule = Rule("lose", ticks=(7, 7))
        self.assertEqual([birth for birth in range(30) if rule.considers(7, 7, birth)], [7])
        rule = Rule("lose", ticks=(0, 0))
        self.assertEqual([birth for birth in range(30) if rule.considers(7, 7, birth)], [0])

    def test_several(self):
        rule = Rule("lose", sender=1, target=2, ticks=(3, 4))
        for sender, target, birth in itertools.product(range(4), range(4), range(7)):
            expected = sender == 1 and target == 2 and birth in (3, 4)
            self.assertIs(rule.considers(sender, target, birth), expected)

    def test_other_choices_and_the_fault_have_no_effect(self):
        self.assertIs(Rule("delay", amount=3, until=9, nth=6, chance=0).considers(1, 2, 3), True)


class FormatTest(unittest.TestCase):
    def test_each_fault(self):
        for rule, text in ((Rule("lose"), "lose"), (Rule("mark"), "mark"), (Rule("copy", amount=9), "copy 9"),
                           (Rule("delay", amount=1, until=1), "delay 1"),
                           (Rule("delay", amount=3, until=20), "delay 3..20")):
            self.assertEqual(format_rule(rule), text)

    def test_each_choice(self):
        for choice, text in (({"sender": 0}, "from 0"), ({"target": 65535}, "to 65535"), ({"ticks": (0, 0)}, "ticks 0"),
                             ({"ticks": (0, 7)}, "ticks 0..7"), ({"nth": 1}, "nth 1"), ({"chance": 0}, "chance 0"),
                             ({"chance": 1000}, "chance 1000")):
            self.assertEqual(format_rule(Rule("mark", **choice)), text + " mark")

    def test_all_together(self):
        rule = Rule("delay", amount=3, until=20, chance=500, nth=4, ticks=(5, 5), target=2, sender=1)
        self.assertEqual(format_rule(rule), "from 1 to 2 ticks 5 nth 4 chance 500 delay 3..20")

    def test_what_is_formatted_is_parsed_as_an_equal_rule(self):
        choices = [("sender", (None, 0, 65535)), ("target", (None, 7)), ("ticks", (None, (0, 0), (3, 20))),
                   ("nth", (None, 1, 999999999)), ("chance", (None, 0, 1000))]
        faults = [("lose", 0, 0), ("mark", 0, 0), ("copy", 1, 0), ("copy", 9, 0), ("delay", 1, 1), ("delay", 1, 2)]
        for values in itertools.product(*(some for _, some in choices)):
            for fault, amount, until in faults:
                more = {name: value for (name, _), value in zip(choices, values)}
                rule = Rule(fault, amount=amount, until=until, **more)
                self.assertEqual(parse_script(format_rule(rule)), [rule])


if __name__ == "__main__":
    unittest.main()
