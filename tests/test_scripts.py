"""Scripts of faults as text (points 99 to 101)."""

import random
import unittest

from throughline.errors import InvalidScript
from throughline.net.rules import Rule, format_rule
from throughline.net.scripts import parse_script

LOSE, MARK = Rule("lose"), Rule("mark")


class ScriptTest(unittest.TestCase):
    def check(self, text, *rules):
        self.assertEqual(parse_script(text), list(rules), text)

    def refused(self, text, line, column, expected):
        with self.assertRaises(InvalidScript) as caught:
            parse_script(text)
        error = caught.exception
        self.assertEqual((error.line, error.column, error.expected), (line, column, expected), text)

    def test_empty_texts(self):
        for text in ("", " ", "\t \t", ";", ";;\n;", "\n\n", "#", "# lose", "  # lose; mark\n;#", "#\n#"):
            self.check(text)

    def test_separators_of_rules(self):
        for text in ("lose;mark", "lose\nmark", " lose ; mark ", ";lose;;mark;", "\nlose\n\n;mark\n", "lose;\nmark"):
            self.check(text, LOSE, MARK)

    def test_comments(self):
        self.check("lose # mark", LOSE)
        self.check("lose#mark", LOSE)
        self.check("# lose; lose\nmark", MARK)
        self.check("lose; # x ; y # z\nmark #", LOSE, MARK)
        self.refused("from 3# 4\n;lose", 1, 6, "a fault")

    def test_blanks(self):
        self.check("  from   1\t\tto \t 2   lose\t", Rule("lose", sender=1, target=2))
        self.check("\tlose\t;\tmark\t", LOSE, MARK)

    def test_other_characters_are_part_of_words(self):
        for sign in ("\r", "\x0b", "\x0c", "\xa0", "\u2028", "\u2003", ",", "\x00", "\x85"):
            self.refused(f"lose{sign}", 1, 1, "a choice or a fault")
            self.refused(f"{sign}lose", 1, 1, "a choice or a fault")
            self.refused(f"mark;{sign}", 1, 6, "a choice or a fault")
            self.refused(f"lose {sign} mark", 1, 6, "the end of the rule")
            self.refused(f"from 1{sign} lose", 1, 6, "an address from 0 to 65535")
        self.refused("lose\r\nmark", 1, 1, "a choice or a fault")
        self.refused("Lose", 1, 1, "a choice or a fault")

    def test_each_choice(self):
        self.check("from 7 lose", Rule("lose", sender=7))
        self.check("to 7 lose", Rule("lose", target=7))
        self.check("ticks 3..20 lose", Rule("lose", ticks=(3, 20)))
        self.check("ticks 3 lose", Rule("lose", ticks=(3, 3)))
        self.check("nth 7 lose", Rule("lose", nth=7))
        self.check("chance 7 lose", Rule("lose", chance=7))

    def test_each_fault(self):
        self.check("lose", LOSE)
        self.check("mark", MARK)
        self.check("copy 3", Rule("copy", amount=3))
        self.check("delay 4", Rule("delay", amount=4, until=4))
        self.check("delay 4..9", Rule("delay", amount=4, until=9))

    def test_choices_in_any_order(self):
        whole = Rule("delay", amount=1, until=2, sender=1, target=2, ticks=(3, 4), nth=5, chance=6)
        parts = ["from 1", "to 2", "ticks 3..4", "nth 5", "chance 6"]
        draws = random.Random(4)
        for _ in range(30):
            draws.shuffle(parts)
            self.check(" ".join(parts) + " delay 1..2", whole)

    def test_bounds_of_numbers(self):
        for text, rule in (("from 0", {"sender": 0}), ("from 65535", {"sender": 65535}), ("to 0", {"target": 0}),
                           ("to 65535", {"target": 65535}), ("nth 1", {"nth": 1}),
                           ("nth 999999999", {"nth": 999999999}), ("chance 0", {"chance": 0}),
                           ("chance 1000", {"chance": 1000}), ("ticks 0", {"ticks": (0, 0)}),
                           ("ticks 999999999", {"ticks": (999999999, 999999999)}),
                           ("ticks 0..999999999", {"ticks": (0, 999999999)})):
            self.check(text + " lose", Rule("lose", **rule))
        for text, expected in (("from 65536", "an address from 0 to 65535"), ("to 65536", "an address from 0 to 65535"),
                               ("nth 0", "a number of at least 1"), ("chance 1001", "a number from 0 to 1000")):
            self.refused(text + " lose", 1, text.index(" ") + 2, expected)
        self.check("copy 1; copy 9; delay 1; delay 1..1", Rule("copy", amount=1), Rule("copy", amount=9),
                   *[Rule("delay", amount=1, until=1)] * 2)
        self.refused("copy 0", 1, 6, "a number from 1 to 9")
        self.refused("copy 10", 1, 6, "a number from 1 to 9")
        self.refused("delay 0", 1, 7, "a delay of at least 1")
        self.refused("delay 0..5", 1, 7, "a delay of at least 1")

    def test_digits(self):
        self.check("from 000000007 lose", Rule("lose", sender=7))
        self.check("nth 000000001 copy 000000009", Rule("copy", nth=1, amount=9))
        self.check("ticks 000000003..000000003 delay 01..010", Rule("delay", ticks=(3, 3), amount=1, until=10))
        wrong = ["0000000007", "1000000000", "+1", "-1", "1.", "1.0", "0x1", "1_0", "1e1", "one", "\u0663", "\xb2",
                 "\uff11", "1,0"]
        for word in wrong:
            for choice, expected in (("from", "an address from 0 to 65535"), ("to", "an address from 0 to 65535"),
                                     ("nth", "a number of at least 1"), ("chance", "a number from 0 to 1000"),
                                     ("ticks", "a range of ticks")):
                self.refused(f"{choice} {word} lose", 1, len(choice) + 2, expected)
            self.refused(f"copy {word}", 1, 6, "a number from 1 to 9")
            self.refused(f"delay {word}", 1, 7, "a range of ticks")

    def test_ranges(self):
        for word in ("..", "3..", "..3", "3...4", "3.4", "3..4..5", "4..3", "1..0", "3-4", "0000000001..2",
                     "1..0000000002", "3..4.", "a..b", "3..+4"):
            self.refused(f"ticks {word} lose", 1, 7, "a range of ticks")
            self.refused(f"delay {word}", 1, 7, "a range of ticks")
        self.refused("ticks 3 .. 4 lose", 1, 9, "a choice or a fault")
        # A range that is none is refused before its beginning is looked at.
        self.refused("delay 0..", 1, 7, "a range of ticks")
        self.refused("delay 00000000000", 1, 7, "a range of ticks")

    def test_a_rule_without_a_fault(self):
        self.refused("from 1", 1, 6, "a fault")
        self.refused(" from 1 ticks  3..4  ; lose", 1, 16, "a fault")
        self.refused("nth 2\nlose", 1, 5, "a fault")

    def test_the_last_word_wants_another_one(self):
        for word in ("from", "to", "nth", "chance", "copy"):
            self.refused(word, 1, 1, "a number")
            self.refused(f"{word} ; lose", 1, 1, "a number")
        for word in ("ticks", "delay"):
            self.refused(word, 1, 1, "a range")
            self.refused(f"chance 1  {word}\nlose", 1, 11, "a range")
        self.refused("from 1 from", 1, 8, "a number")

    def test_the_word_behind_is_another_choice(self):
        self.refused("from to 2 lose", 1, 6, "an address from 0 to 65535")
        self.refused("ticks lose", 1, 7, "a range of ticks")
        self.refused("copy copy", 1, 6, "a number from 1 to 9")
        self.refused("from lose", 1, 6, "an address from 0 to 65535")

    def test_a_choice_that_stands_twice(self):
        for choice in ("from 1", "to 1", "ticks 1", "nth 1", "chance 1"):
            self.refused(f"{choice} {choice} lose", 1, len(choice) + 2, "each choice once")
            other = "nth 2" if choice != "nth 1" else "to 2"
            self.refused(f"{choice} {other} {choice} lose", 1, len(choice) + len(other) + 3, "each choice once")
            self.check(f"{choice} lose; {choice} lose", *parse_script(f"{choice} lose") * 2)

    def test_a_choice_that_stands_twice_with_a_wrong_number(self):
        self.refused("from 1 from 65536 lose", 1, 13, "an address from 0 to 65535")
        self.refused("ticks 1 ticks 2..1 lose", 1, 15, "a range of ticks")
        self.refused("chance 1 chance", 1, 10, "a number")

    def test_words_behind_the_fault(self):
        self.refused("lose lose", 1, 6, "the end of the rule")
        self.refused("mark from 1", 1, 6, "the end of the rule")
        self.refused("copy 1 2", 1, 8, "the end of the rule")
        self.refused("delay 1..2 x y", 1, 12, "the end of the rule")
        # The number of the fault is looked at first.
        self.refused("copy 10 x", 1, 6, "a number from 1 to 9")
        self.refused("delay 0 x", 1, 7, "a delay of at least 1")

    def test_other_words(self):
        for word in ("loses", "From", "frm", "1", "3..4", "drop", "'", "fromto"):
            self.refused(word, 1, 1, "a choice or a fault")
            self.refused(f"nth 2 {word} lose", 1, 7, "a choice or a fault")

    def test_of_two_wrong_things_the_left_one_is_told(self):
        self.refused("from 70000 to 70000 x", 1, 6, "an address from 0 to 65535")
        self.refused("from 1 x to 70000 lose", 1, 8, "a choice or a fault")
        self.refused("from 1 from 2 to 70000", 1, 8, "each choice once")
        self.refused("nth 0 nth 0", 1, 5, "a number of at least 1")

    def test_the_first_wrong_rule_is_told(self):
        self.refused("lose; x; y", 1, 7, "a choice or a fault")
        self.refused("lose\nmark\n  nth 1 # lose\nx", 3, 7, "a fault")
        self.refused("lose;;mark x;y", 1, 12, "the end of the rule")

    def test_lines_and_columns(self):
        self.refused("\n\n\tx", 3, 2, "a choice or a fault")
        self.refused("lose;\t x", 1, 8, "a choice or a fault")
        self.refused("lose # x\n; x", 2, 3, "a choice or a fault")
        self.refused(" ;  ; ;\t;x", 1, 10, "a choice or a fault")
        self.refused("lose;from\t\t\t1\tto\t5;mark", 1, 18, "a fault")

    def test_random_texts(self):
        draws = random.Random(101)
        words = ["from", "to", "ticks", "nth", "chance", "lose", "mark", "copy", "delay", "1", "3", "0", "1..4", ";",
                 "\n", "# x", "70000"]
        good = 0
        for _ in range(3000):
            text = " ".join(draws.choice(words) for _ in range(draws.randrange(1, 9)))
            try:
                rules = parse_script(text)
            except InvalidScript as error:
                rows = text.split("\n")
                self.assertTrue(1 <= error.line <= len(rows))
                self.assertNotIn(rows[error.line - 1][error.column - 1], " ;#")
                self.assertTrue(error.column == 1 or rows[error.line - 1][error.column - 2] in " ;")
            else:
                good += len(rules)
                self.assertEqual(parse_script(";".join(format_rule(rule) for rule in rules)), rules)
        self.assertGreater(good, 50)


if __name__ == "__main__":
    unittest.main()
