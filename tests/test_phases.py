import itertools
import unittest

from throughline.endpoint.phases import next_phase, open_phase

OPEN = {
    (False, False, False): "established", (False, True, False): "established",
    (False, False, True): "close wait", (False, True, True): "close wait",
    (True, False, False): "fin wait 1", (True, True, False): "fin wait 2",
    (True, False, True): "closing", (True, True, True): "time wait",
}
BOTH = (False, True)


def following(phase, opened, finished, answered, theirs):
    return next_phase(phase, opened=opened, finished=finished, answered=answered, theirs=theirs)


class PhasesTest(unittest.TestCase):
    def each(self):
        return itertools.product(BOTH, BOTH, BOTH, BOTH)

    def test_the_open_phase(self):
        for (finished, answered, theirs), phase in OPEN.items():
            self.assertEqual(open_phase(finished=finished, answered=answered, theirs=theirs), phase)

    def test_behind_syn_received(self):
        for opened, *rest in self.each():
            expected = OPEN[tuple(rest)] if opened else "syn received"
            self.assertEqual(following("syn received", opened, *rest), expected)

    def test_behind_established(self):
        for opened, *rest in self.each():
            self.assertEqual(following("established", opened, *rest), OPEN[tuple(rest)])

    def test_behind_the_phases_of_one_that_has_finished(self):
        for phase in ("fin wait 1", "fin wait 2", "closing"):
            for opened, finished, answered, theirs in self.each():
                with self.subTest(phase, opened=opened, finished=finished, answered=answered, theirs=theirs):
                    self.assertEqual(following(phase, opened, finished, answered, theirs),
                                     OPEN[True, answered, theirs])

    def test_behind_close_wait(self):
        for opened, finished, answered, theirs in self.each():
            expected = ("ended" if answered else "last ack") if finished else "close wait"
            self.assertEqual(following("close wait", opened, finished, answered, theirs), expected)

    def test_behind_last_ack(self):
        for opened, finished, answered, theirs in self.each():
            self.assertEqual(following("last ack", opened, finished, answered, theirs),
                             "ended" if answered else "last ack")

    def test_phases_that_stay(self):
        for phase in ("syn sent", "time wait", "ended"):
            for row in self.each():
                self.assertEqual(following(phase, *row), phase)


if __name__ == "__main__":
    unittest.main()
