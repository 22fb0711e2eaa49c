"""Records written as text and read from text (points 131 to 135)."""

import inspect
import random
import unittest

from tests.drawn_records import changed_records, played
from tests.frozen import frozen
from throughline.errors import InvalidRecord, ThroughlineError
from throughline.host.packet import Packet
from throughline.net.records import Record
from throughline.records import reading
from throughline.records.reading import read_record, read_records, record_lines
from throughline.records.writing import write_record, write_records

WORDS = ("sent", "delivered", "lost", "copied", "marked", "expired")
MANY = 10 ** 15 - 1

# Records and their lines.
ROWS = [
    (Record(0, 0, "sent", Packet(0, 0, [])), "0 0 sent 0 0 - -"),
    (Record(3, 12, "delivered", Packet(1, 2, [0, 10, 255])), "3 12 delivered 1 2 - 000aff"),
    (Record(3, 12, "lost", Packet(1, 2, [], marked=True)), "3 12 lost 1 2 m -"),
    (Record(10, 100, "copied", Packet(65535, 7, [9], marked=True)), "10 100 copied 65535 7 m 09"),
    (Record(7, 8, "marked", Packet(99999, 100000, [171, 205])), "7 8 marked 99999 100000 - abcd"),
    (Record(MANY, MANY, "expired", Packet(MANY, MANY, [1])), f"{MANY} {MANY} expired {MANY} {MANY} - 01"),
]


class WritingTest(unittest.TestCase):
    def test_lines(self):
        for record, line in ROWS:
            self.assertEqual(write_record(record), line)

    def test_each_word(self):
        for word in WORDS:
            self.assertEqual(write_record(Record(1, 2, word, Packet(3, 4, [5]))), f"1 2 {word} 3 4 - 05")

    def test_numbers_of_more_digits(self):
        self.assertEqual(write_record(Record(10 ** 15, 10 ** 20, "sent", Packet(1, 2, []))),
                         f"{10 ** 15} {10 ** 20} sent 1 2 - -")

    def test_texts(self):
        self.assertEqual(write_records([]), "")
        self.assertEqual(write_records([ROWS[1][0]]), "3 12 delivered 1 2 - 000aff\n")
        self.assertEqual(write_records([record for record, _ in ROWS]), "".join(line + "\n" for _, line in ROWS))

    def test_the_records_are_left_alone(self):
        given = [record for record, _ in ROWS]
        before = frozen(given)
        write_records(given)
        self.assertEqual(frozen(given), before)


class ReadingTest(unittest.TestCase):
    def test_lines(self):
        for record, line in ROWS:
            self.assertEqual(read_record(line), record)
            self.assertEqual(read_record(line, number=7), record)

    def test_marks_are_true_and_false(self):
        self.assertIs(read_record("0 0 sent 0 0 m -").packet.marked, True)
        self.assertIs(read_record("0 0 sent 0 0 - -").packet.marked, False)

    def test_texts(self):
        self.assertEqual(read_records(""), [])
        text = "".join(line + "\n" for _, line in ROWS)
        records = [record for record, _ in ROWS]
        self.assertEqual(read_records(text), records)
        # The last line may do without its newline.
        self.assertEqual(read_records(text[:-1]), records)

    def test_lines_that_are_left_out(self):
        line = "0 0 sent 0 0 - -"
        one = [read_record(line)]
        for text in ("\n", "\n\n\n", "#", "#\n", "# 1 2 3\n#\n\n", "#" + line):
            self.assertEqual(read_records(text), [])
        for text in (f"\n{line}", f"{line}\n\n", f"# first\n{line}\n# last", f"\n\n#\n{line}\n#  \n\n", f"{line}\n#{line}"):
            self.assertEqual(read_records(text), one)

    def test_a_line_with_blanks_alone_is_not_left_out(self):
        for line in (" ", "\t", " #", "\r", "  # 1"):
            with self.assertRaises(InvalidRecord) as caught:
                read_records("\n" + line + "\n")
            self.assertEqual(caught.exception.line, 2)

    def test_record_lines(self):
        self.assertTrue(inspect.isgeneratorfunction(reading.record_lines))
        self.assertEqual(list(record_lines("")), [])
        self.assertEqual(list(record_lines("a\n\n#b\n c#\n#\nd")), [(1, "a"), (4, " c#"), (6, "d")])
        self.assertEqual(list(record_lines("\n\nx\n")), [(3, "x")])
        self.assertEqual(list(record_lines("a\r\nb\x0bc\u2028d\n")), [(1, "a\r"), (2, "b\x0bc\u2028d")])
        self.assertTrue(all(isinstance(pair, tuple) for pair in record_lines("a\nb")))


class WrongLinesTest(unittest.TestCase):
    WORDS = ["3", "12", "sent", "1", "2", "-", "0a"]

    def refuse(self, line):
        with self.subTest(line[:60]):
            with self.assertRaises(InvalidRecord) as caught:
                read_record(line)
            self.assertEqual(caught.exception.line, 1)
            self.assertIsInstance(caught.exception, ThroughlineError)
            with self.assertRaises(InvalidRecord) as caught:
                read_record(line, number=44)
            self.assertEqual(caught.exception.line, 44)
            if line != "" and line[0] != "#":
                with self.assertRaises(InvalidRecord) as caught:
                    read_records(f"#\n0 0 sent 0 0 - -\n{line}\nwrong too")
                self.assertEqual(caught.exception.line, 3)

    def with_word(self, at, word):
        return " ".join(self.WORDS[:at] + [word] + self.WORDS[at + 1:])

    def test_each_wrong_number(self):
        wrong = ["", "00", "01", "007", "-1", "+1", "-0", "1.0", "0x1", "1e3", "1_0", "a", "sent", "-", "m", "1" * 16,
                 "1000000000000000", "0" * 15, "\u0661", "\u00b2", "1\t", "\t1", "1\r", "None"]
        for at in (0, 1, 3, 4):
            for word in wrong:
                self.refuse(self.with_word(at, word))
            for word in ("0", "9", "10", "9" * 15, "1" + "0" * 14):
                found = read_record(self.with_word(at, word))
                self.assertEqual([found.tick, found.number, 0, found.packet.sender, found.packet.target][at], int(word))

    def test_each_wrong_word(self):
        for word in ("", "Sent", "SENT", "send", "sents", "lose", "copy", "mark", "deliver", "expire", "received", "-",
                     "sent\t", "1"):
            self.refuse(self.with_word(2, word))
        for word in WORDS:
            self.assertEqual(read_record(self.with_word(2, word)).word, word)

    def test_each_wrong_mark(self):
        for word in ("", "M", "mm", "--", "marked", "0", "1", "x", "m\t"):
            self.refuse(self.with_word(5, word))

    def test_wrong_octets(self):
        for word in ("", "a", "0", "abc", "0A", "AB", "0g", "0x", "--", "- ", "-0", "0-", "0a-", "0a 0b", "0a\t", "\u0661\u0661",
                     "m"):
            self.refuse(self.with_word(6, word))
        self.assertEqual(read_record(self.with_word(6, "00ff7e")).packet.octets, [0, 255, 126])
        self.assertEqual(read_record(self.with_word(6, "-")).packet.octets, [])

    def test_spaces(self):
        line = " ".join(self.WORDS)
        self.assertEqual(read_record(line).number, 12)
        for wrong in (" " + line, line + " ", "  " + line, line + "  ", line.replace(" ", "  "), line.replace(" ", "\t"),
                      "\t" + line, line + "\t", line + "\r"):
            self.refuse(wrong)
        for at in range(len(line)):
            if line[at] == " ":
                self.refuse(line[:at] + " " + line[at:])
                self.refuse(line[:at] + "\t" + line[at + 1:])
                self.refuse(line[:at] + line[at + 1:])

    def test_too_few_and_too_many_words(self):
        for count in range(7):
            self.refuse(" ".join(self.WORDS[:count]))
        self.refuse(" ".join(self.WORDS + ["0"]))
        self.refuse(" ".join(self.WORDS + ["-"]))
        self.refuse(" ".join(self.WORDS * 2))

    def test_lines_that_a_text_leaves_out_are_no_records(self):
        for line in ("", "#", "# 3 12 sent 1 2 - 0a", "#3 12 sent 1 2 - 0a"):
            self.refuse(line)

    def test_the_first_of_several_wrong_lines(self):
        good = "0 0 sent 0 0 - -"
        for lines, first in ((["x"], 1), ([good, "x", "y"], 2), (["", "#", good, "", "x", good, "y"], 5),
                             ([good, good, good + " "], 3)):
            for end in ("", "\n"):
                with self.assertRaises(InvalidRecord) as caught:
                    read_records("\n".join(lines) + end)
                self.assertEqual(caught.exception.line, first)


class BackAndForthTest(unittest.TestCase):
    def test_the_records_of_nets(self):
        for seed in range(15):
            draws = random.Random(seed)
            records = changed_records(draws, played(draws, ticks=30).records, 5)
            text = write_records(records)
            self.assertEqual(read_records(text), records)
            self.assertEqual(write_records(read_records(text)), text)

    def test_drawn_records(self):
        draws = random.Random(135)
        for _ in range(400):
            tick, number, sender, target = [draws.randrange(10 ** draws.randrange(1, 16)) for _ in range(4)]
            octets = [draws.randrange(256) for _ in range(draws.choice([0, 0, 1, 2, 40]))]
            record = Record(tick, number, draws.choice(WORDS),
                            Packet(sender, target, octets, marked=draws.random() < 0.5))
            self.assertEqual(read_record(write_record(record)), record)

    def test_a_line_that_is_read_is_the_written_form(self):
        draws = random.Random(133)
        read = 0
        for _ in range(6000):
            line = list(write_record(draws.choice(ROWS[:5])[0]))
            for _ in range(draws.randrange(1, 3)):
                at = draws.randrange(len(line))
                line[at:at + draws.randrange(2)] = draws.choice(["", " ", "0", "1", "-", "m", "a", "F", "#", "sent"])
            line = "".join(line)
            try:
                record = read_record(line)
            except InvalidRecord:
                continue
            read += 1
            self.assertEqual(write_record(record), line)
        self.assertGreater(read, 500)


if __name__ == "__main__":
    unittest.main()
