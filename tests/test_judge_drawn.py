"""The judge beside a second writing of it, over records of nets as they are and changed (points 122 to 130)."""

import random
import unittest

from tests.drawn_records import changed_records, played
from tests.judge_model import (
    BEFORE, BEYOND, NO_SEGMENT, OTHER_END, OTHER_OCTETS, TOO_MUCH, WINDOW_BACK, JudgeModel, arrived)
from throughline.records.judge import judge, streams
from throughline.records.packets import judge_packets


def expected(records, life):
    """The findings by the model, as pairs; those of packets are taken from `judge_packets`."""
    model, found = JudgeModel(), []
    packets = [(finding.index, finding.problem) for finding in judge_packets(records, life=life)]
    for index, record in enumerate(records):
        found += [pair for pair in packets if pair[0] == index]
        found += [(index, problem) for problem in model.take(record)]
    return found, model


class DrawnRecordsTest(unittest.TestCase):
    def check(self, records, life):
        found, model = expected(records, life)
        self.assertEqual([(finding.index, finding.problem) for finding in judge(records, life=life)], found)
        given = streams(records)
        self.assertEqual([(one.sender, one.source, one.target, one.target_port, one.count) for one in given],
                         model.order)
        for one, key in zip(given, model.order):
            known = model.known[key]
            self.assertEqual((one.first_number, one.scale, one.octets, one.end, one.edge, one.told, one.arrived),
                             (known["first"], known["scale"], known["octets"], known["end"], known["edge"],
                              known["told"], arrived(known)))
            self.assertEqual(sum(stop - start for start, stop in one.delivered), len(known["delivered"]))
            self.assertTrue(all(offset in known["delivered"] for start, stop in one.delivered
                                for offset in range(start, stop)))
        return found

    def test_the_records_of_a_net_have_no_findings(self):
        octets = 0
        for seed in range(40):
            draws = random.Random(seed)
            given = played(draws, count=2 + seed % 2, room=[200, 1000, 9000, 100000, 262144][seed % 5])
            self.assertEqual(self.check(given.records, 30), [])
            octets += sum(one.arrived for one in streams(given.records))
        self.assertGreater(octets, 20000)

    def test_what_arrived_is_what_was_written(self):
        for seed in range(20):
            given = played(random.Random(seed + 50), ticks=90)
            directions = streams(given.records)
            for one in directions:
                index = [host.address for host in given.hosts].index(one.sender)
                written = given.written(index, one.count)
                self.assertEqual(one.octets, written[:len(one.octets)])
                for other in range(len(given.hosts)):
                    for socket in given.hosts[other].sockets:
                        if given.other_end(other, socket) == (index, one.count):
                            read = given.was_read(other, socket)
                            self.assertEqual(read, one.octets[:len(read)])
                            self.assertLessEqual(len(read), one.arrived)

    def test_changed_records(self):
        kinds = {}
        for seed in range(150):
            draws = random.Random(seed)
            records = played(draws, ticks=30).records
            if len(records) > 5:
                for _, problem in self.check(changed_records(draws, records, draws.randrange(1, 12)), 30):
                    kinds[problem] = kinds.get(problem, 0) + 1
        for problem in (NO_SEGMENT, BEFORE, OTHER_OCTETS, OTHER_END, BEYOND, TOO_MUCH, WINDOW_BACK):
            self.assertGreater(kinds.get(problem, 0), 5, problem)


if __name__ == "__main__":
    unittest.main()
