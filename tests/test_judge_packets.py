"""What happens to packets, judged (point 123)."""

import random
import unittest

from tests.frozen import frozen
from tests.test_net_records import drawn_net
from throughline.host.packet import Packet
from throughline.net.records import Record
from throughline.records.findings import Finding
from throughline.records.packets import judge_packets

BACK = "the tick goes back"
NUMBER = "the number is not the next one"
UNDER_WAY = "the packet is not under way"
OTHER = "the packet is not the one that was sent"
YOUNG = "the packet is too young to expire"
OLD = "the packet is too old"
WORDS = ("sent", "delivered", "lost", "copied", "marked", "expired")


def plain(**changed):
    return Packet(**{"sender": 1, "target": 2, "octets": [5, 6], **changed})


def records(*rows):
    """Records of (tick, number, word) or (tick, number, word, packet)."""
    return [Record(*row) if len(row) == 4 else Record(*row, plain()) for row in rows]


def found(*rows, life=10):
    """The problems of the records, a list for each of them."""
    given = records(*rows)
    problems = [[] for _ in given]
    for finding in judge_packets(given, life=life):
        problems[finding.index].append(finding.problem)
    return problems


class RightRecordsTest(unittest.TestCase):
    def test_no_records(self):
        self.assertEqual(judge_packets([], life=10), [])

    def test_each_word(self):
        self.assertEqual(found((0, 0, "sent"), (0, 1, "sent"), (1, 0, "copied"), (1, 0, "marked"), (2, 0, "delivered"),
                               (2, 0, "lost"), (3, 2, "sent"), (11, 1, "expired"), (12, 3, "sent")), [[]] * 9)

    def test_findings(self):
        given = judge_packets(records((5, 1, "sent"), (5, 2, "sent"), (4, 9, "sent")), life=10)
        self.assertEqual(given, [Finding(0, NUMBER), Finding(2, BACK), Finding(2, NUMBER)])

    def test_nets(self):
        total = 0
        for seed in range(10):
            given = drawn_net(random.Random(seed), 200)
            self.assertEqual(judge_packets(given.records, life=12), [])
            total += len(given.records)
        self.assertGreater(total, 500)

    def test_the_records_are_left_alone(self):
        given = records((0, 0, "sent"), (0, 0, "copied"), (9, 3, "expired"))
        before = frozen(given)
        judge_packets(given, life=3)
        self.assertEqual(frozen(given), before)


class TicksTest(unittest.TestCase):
    def test_each_word(self):
        for word in WORDS:
            if word != "sent":
                problems = found((5, 0, "sent"), (4, 0, word))[1]
                self.assertEqual(problems[0], BACK)
                self.assertEqual(problems[1:], [YOUNG] if word == "expired" else [])
        self.assertEqual(found((5, 0, "sent"), (4, 1, "sent")), [[], [BACK]])

    def test_equal_ticks(self):
        self.assertEqual(found((5, 0, "sent"), (5, 1, "sent"), (5, 0, "delivered")), [[], [], []])

    def test_the_record_before_counts_and_no_other(self):
        self.assertEqual(found((5, 0, "sent"), (3, 1, "sent"), (4, 2, "sent"), (4, 3, "sent"), (3, 4, "sent")),
                         [[], [BACK], [], [], [BACK]])

    def test_the_first_record(self):
        self.assertEqual(found((0, 0, "sent")), [[]])
        self.assertEqual(found((99, 0, "sent")), [[]])


class NumbersTest(unittest.TestCase):
    def test_the_first_number(self):
        self.assertEqual(found((0, 0, "sent")), [[]])
        self.assertEqual(found((0, 1, "sent")), [[NUMBER]])
        self.assertEqual(found((0, 0, "lost"), (0, 0, "sent")), [[UNDER_WAY], []])

    def test_the_next_number(self):
        for number, problems in ((0, [NUMBER]), (1, [NUMBER]), (2, []), (3, [NUMBER]), (99, [NUMBER])):
            self.assertEqual(found((0, 0, "sent"), (0, 1, "sent"), (0, number, "sent"))[2], problems)

    def test_numbers_go_on_from_the_last_one(self):
        self.assertEqual(found((0, 4, "sent"), (0, 5, "sent"), (0, 0, "sent"), (0, 1, "sent"), (0, 6, "sent")),
                         [[NUMBER], [], [NUMBER], [], [NUMBER]])

    def test_only_records_sent_count(self):
        self.assertEqual(found((0, 0, "sent"), (0, 7, "lost"), (0, 1, "sent"), (0, 0, "delivered"), (0, 2, "sent")),
                         [[], [UNDER_WAY], [], [], []])


class UnderWayTest(unittest.TestCase):
    def test_a_number_that_was_never_sent(self):
        for word in WORDS[1:]:
            # The other rows ask for a packet that was sent.
            self.assertEqual(found((0, 0, "sent"), (99, 1, word, plain(octets=[9])), life=10)[1], [UNDER_WAY])

    def test_what_takes_the_last_copy_away(self):
        for first in ("delivered", "lost", "expired"):
            for second in WORDS[1:]:
                tick = 11 if first == "expired" else 5
                problems = found((0, 0, "sent"), (tick, 0, first), (tick, 0, second))
                self.assertEqual(problems[1], [])
                self.assertIn(UNDER_WAY, problems[2])
        for first in ("copied", "marked"):
            for second in WORDS[1:5]:
                self.assertEqual(found((0, 0, "sent"), (5, 0, first), (5, 0, second))[2], [])

    def test_copies_that_are_added_and_taken_away(self):
        self.assertEqual(found((0, 0, "sent"), (0, 0, "copied"), (0, 0, "copied"), (1, 0, "lost"), (1, 0, "delivered"),
                               (2, 0, "delivered"), (3, 0, "marked"), (3, 0, "copied"), (3, 0, "delivered"),
                               (3, 0, "delivered")),
                         [[], [], [], [], [], [], [UNDER_WAY], [UNDER_WAY], [], [UNDER_WAY]])

    def test_there_are_never_fewer_than_none(self):
        self.assertEqual(found((0, 0, "sent"), (0, 0, "lost"), (0, 0, "lost"), (0, 0, "lost"), (0, 0, "copied"),
                               (0, 0, "lost"), (0, 0, "lost")),
                         [[], [], [UNDER_WAY], [UNDER_WAY], [UNDER_WAY], [], [UNDER_WAY]])

    def test_a_copy_of_what_was_never_sent(self):
        self.assertEqual(found((0, 0, "copied"), (0, 0, "lost"), (0, 0, "sent"), (0, 0, "lost"), (0, 0, "lost")),
                         [[UNDER_WAY], [UNDER_WAY], [], [], [UNDER_WAY]])
        self.assertEqual(found((0, 0, "copied"), (0, 0, "sent"), (0, 0, "lost"), (0, 0, "lost"), (0, 0, "lost")),
                         [[UNDER_WAY], [], [], [], [UNDER_WAY]])

    def test_a_number_that_was_sent_twice(self):
        self.assertEqual(found((0, 0, "sent"), (0, 0, "sent"), (0, 0, "lost"), (0, 0, "lost")),
                         [[], [NUMBER], [], [UNDER_WAY]])
        # Also once no copy is left.
        self.assertEqual(found((0, 0, "sent"), (0, 0, "lost"), (0, 0, "sent"), (0, 0, "lost")),
                         [[], [], [NUMBER], [UNDER_WAY]])

    def test_each_number_by_itself(self):
        self.assertEqual(found((0, 0, "sent"), (0, 1, "sent"), (0, 0, "copied"), (0, 1, "lost"), (0, 1, "lost"),
                               (0, 0, "lost"), (0, 0, "lost")), [[], [], [], [], [UNDER_WAY], [], []])


class SamePacketTest(unittest.TestCase):
    OTHERS = [{"sender": 3}, {"target": 3}, {"octets": [5]}, {"octets": [6, 5]}, {"octets": [5, 6, 0]}, {"octets": []}]

    def test_each_part(self):
        for word in ("delivered", "lost", "copied", "marked"):
            for changed in self.OTHERS:
                self.assertEqual(found((0, 0, "sent"), (1, 0, word, plain(**changed))), [[], [OTHER]])
        for changed in self.OTHERS:
            self.assertEqual(found((0, 0, "sent"), (11, 0, "expired", plain(**changed))), [[], [OTHER]])

    def test_marks(self):
        marked = plain(marked=True)
        for word, tick in (("delivered", 1), ("lost", 1), ("copied", 1), ("marked", 1), ("expired", 11)):
            self.assertEqual(found((0, 0, "sent"), (tick, 0, word, marked)), [[], []])
            self.assertEqual(found((0, 0, "sent", marked), (tick, 0, word, marked)), [[], []])
            self.assertEqual(found((0, 0, "sent", marked), (tick, 0, word)), [[], [OTHER]])

    def test_a_mark_in_between_is_not_asked_for(self):
        self.assertEqual(found((0, 0, "sent"), (0, 0, "marked", plain(marked=True)), (1, 0, "delivered")), [[], [], []])
        self.assertEqual(found((0, 0, "sent"), (0, 0, "marked")), [[], []])

    def test_the_first_packet_counts(self):
        other = plain(octets=[7])
        self.assertEqual(found((0, 0, "sent"), (0, 0, "sent", other), (0, 0, "copied", other), (0, 0, "lost")),
                         [[], [NUMBER], [OTHER], []])

    def test_what_is_sent_is_not_compared(self):
        self.assertEqual(found((0, 0, "sent"), (0, 0, "sent", plain(sender=4))), [[], [NUMBER]])

    def test_without_a_copy_under_way(self):
        self.assertEqual(found((0, 0, "sent"), (0, 0, "lost"), (0, 0, "lost", plain(sender=4))),
                         [[], [], [UNDER_WAY, OTHER]])


class AgesTest(unittest.TestCase):
    def test_expiring_at_the_edge_of_the_life(self):
        for tick, problems in ((7, [YOUNG]), (16, [YOUNG]), (17, [YOUNG]), (18, []), (90, [])):
            self.assertEqual(found((7, 0, "sent"), (tick, 0, "expired"), life=10)[1], problems)

    def test_the_other_words_at_the_edge_of_the_life(self):
        for word in ("delivered", "lost", "copied", "marked"):
            for tick, problems in ((7, []), (16, []), (17, []), (18, [OLD]), (90, [OLD])):
                self.assertEqual(found((7, 0, "sent"), (tick, 0, word), life=10)[1], problems)

    def test_the_tick_of_the_first_record_sent_counts(self):
        self.assertEqual(found((0, 0, "sent"), (8, 0, "sent"), (11, 0, "marked"), (11, 0, "expired"), life=10),
                         [[], [NUMBER], [OLD], []])

    def test_a_life_of_0_and_of_many(self):
        self.assertEqual(found((0, 0, "sent"), (0, 0, "copied"), (0, 0, "lost"), (1, 0, "expired"), life=0), [[]] * 4)
        self.assertEqual(found((0, 0, "sent"), (10 ** 9, 0, "lost"), life=10 ** 9), [[], []])


class OrderTest(unittest.TestCase):
    def test_several_in_one_record(self):
        marked = plain(marked=True)
        self.assertEqual(found((20, 0, "sent", marked), (21, 0, "lost", marked), (19, 0, "expired")),
                         [[], [], [BACK, UNDER_WAY, OTHER, YOUNG]])
        self.assertEqual(found((20, 0, "sent"), (40, 0, "expired"), (39, 0, "copied", plain(octets=[]))),
                         [[], [], [BACK, UNDER_WAY, OTHER, OLD]])
        self.assertEqual(found((20, 0, "sent"), (3, 7, "sent"), (2, 9, "marked")),
                         [[], [BACK, NUMBER], [BACK, UNDER_WAY]])

    def test_what_is_known_before_the_record_counts(self):
        # A record "copied" adds its copy only behind itself.
        self.assertEqual(found((0, 0, "sent"), (0, 0, "lost"), (0, 0, "copied"), (0, 0, "lost")),
                         [[], [], [UNDER_WAY], []])


class Model:
    """A second writing of point 123: it looks back over all records for each of them."""

    def __init__(self, given, life):
        self.records, self.life = given, life

    def copies(self, index, number):
        many, known = 0, False
        for record in self.records[:index]:
            if record.number == number:
                if record.word == "sent" and not known:
                    many, known = many + 1, True
                elif record.word == "copied":
                    many += 1
                elif record.word in ("delivered", "lost", "expired"):
                    many = max(0, many - 1)
        return many

    def problems(self, index):
        record, before = self.records[index], self.records[:index]
        sent = [other for other in before if other.word == "sent"]
        first = next((other for other in sent if other.number == record.number), None)
        rows = [(BACK, before != [] and record.tick < before[-1].tick)]
        if record.word == "sent":
            rows.append((NUMBER, record.number != (sent[-1].number + 1 if sent else 0)))
        else:
            rows.append((UNDER_WAY, first is None or self.copies(index, record.number) == 0))
            if first is not None:
                one, two = first.packet, record.packet
                same = (one.sender, one.target, one.octets) == (two.sender, two.target, two.octets)
                rows.append((OTHER, not same or (one.marked and not two.marked)))
                rows.append((YOUNG, record.word == "expired" and record.tick <= first.tick + self.life))
                rows.append((OLD, record.word != "expired" and record.tick > first.tick + self.life))
        return [problem for problem, applies in rows if applies]


class ModelTest(unittest.TestCase):
    def test_drawn_records(self):
        kinds = {}
        for seed in range(60):
            draws = random.Random(seed)
            tick, given, number = 0, [], 0
            for _ in range(60):
                tick = max(0, tick + draws.choice([0, 0, 0, 1, 2, -1]))
                word = draws.choice(WORDS + ("sent",))
                at = draws.choice([number, number, number - 1, draws.randrange(8)])
                if word == "sent":
                    at = draws.choice([number] * 6 + [draws.randrange(8)])
                    number = at + 1
                given.append(Record(tick, max(0, at), word, plain(
                    octets=draws.choice([[5, 6]] * 8 + [[7]]), marked=draws.random() < 0.3,
                    sender=draws.choice([1] * 20 + [3]))))
            model = Model(given, 9)
            expected = [(index, problem) for index in range(len(given)) for problem in model.problems(index)]
            findings = [(finding.index, finding.problem) for finding in judge_packets(given, life=9)]
            self.assertEqual(findings, expected)
            for _, problem in findings:
                kinds[problem] = kinds.get(problem, 0) + 1
        self.assertEqual(sorted(kinds), sorted([BACK, NUMBER, UNDER_WAY, OTHER, YOUNG, OLD]))


if __name__ == "__main__":
    unittest.main()
