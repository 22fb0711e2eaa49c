import unittest

from throughline.pace.reno import Reno

GREATEST = 1073741824


def in_avoidance(*, cwnd=1000, credit=0):
    control = Reno(100)
    control.cwnd = cwnd
    control.thresh = cwnd
    control.credit = credit
    return control


class RenoTest(unittest.TestCase):
    def check(self, control, octets, expected, mss=100):
        control.acknowledge(mss, 5, octets, flight=5000, recovering=False)
        self.assertEqual((control.cwnd, control.credit), expected)

    def test_a_credit_below_the_window(self):
        self.check(in_avoidance(), 300, (1000, 300))
        self.check(in_avoidance(), 999, (1000, 999))
        self.check(in_avoidance(credit=500), 499, (1000, 999))

    def test_a_credit_at_the_window(self):
        self.check(in_avoidance(), 1000, (1100, 0))
        self.check(in_avoidance(credit=500), 500, (1100, 0))

    def test_a_credit_above_the_window(self):
        self.check(in_avoidance(), 1001, (1100, 1))
        self.check(in_avoidance(credit=900), 400, (1100, 300))

    def test_the_window_is_subtracted_once(self):
        self.check(in_avoidance(), 3500, (1100, 2500))

    def test_the_window_grows_by_the_mss_of_the_call(self):
        self.check(in_avoidance(), 1000, (1007, 0), mss=7)
        self.check(in_avoidance(), 2000, (2200, 1000), mss=1200)

    def test_the_credit_stays_from_call_to_call(self):
        control = in_avoidance()
        for expected in ((1000, 300), (1000, 600), (1000, 900), (1100, 200), (1100, 500), (1100, 800), (1200, 0)):
            self.check(control, 300, expected)

    def test_the_window_of_before_is_subtracted_at_the_greatest_window(self):
        control = in_avoidance(cwnd=GREATEST - 10)
        control.acknowledge(100, 5, GREATEST - 7, flight=5000, recovering=False)
        self.assertEqual((control.cwnd, control.credit), (GREATEST, 3))

    def test_slow_start_leaves_the_credit(self):
        control = in_avoidance(credit=42)
        control.thresh = 1001
        self.check(control, 300, (1100, 42))

    def test_a_loss_forgets_the_credit(self):
        for name in ("lose", "time_out"):
            control = in_avoidance(credit=42)
            getattr(control, name)(100, flight=500)
            self.assertEqual(control.credit, 0)
        control = in_avoidance(credit=42)
        self.assertTrue(control.mark(100, 1, flight=500, length=1))
        self.assertEqual(control.credit, 0)
        control.credit = 42
        self.assertFalse(control.mark(100, 1, flight=500, length=1))
        self.assertEqual(control.credit, 42)


if __name__ == "__main__":
    unittest.main()
