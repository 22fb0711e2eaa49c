import random
import unittest

from throughline.pace.cubic import Cubic, curve, turning_time

GREATEST = 1073741824
SLOW = 2500000000


def root(number):
    """The cube root in another way: digit by digit."""
    found = 0
    for place in range(70, -1, -1):
        if (found + 2 ** place) ** 3 <= number:
            found += 2 ** place
    return found


def in_avoidance(*, cwnd=1000, peak=0, prior=0, period=None):
    control = Cubic(100)
    control.cwnd = cwnd
    control.thresh = cwnd
    control.peak = peak
    control.prior = prior
    control.period = period
    return control


def acknowledge(control, octets, *, now=0, mss=100):
    control.acknowledge(mss, now, octets, flight=GREATEST, recovering=False)
    return control.cwnd, control.period


class CurveTest(unittest.TestCase):
    def test_at_the_turning_time(self):
        self.assertEqual(curve(1000, 5000, 300, 300), 5000)
        self.assertEqual(curve(1000, 5000, 0, 0), 5000)
        self.assertEqual(curve(1000, 0, 9, 9), 0)

    def test_before_the_turning_time(self):
        # One octet of rise for a distance of 100 and an mss of 2500.
        self.assertEqual(curve(2500, 5000, 300, 200), 4999)
        self.assertEqual(curve(2500, 5000, 300, 100), 4992)
        self.assertEqual(curve(2500, 5000, 300, 0), 4973)

    def test_behind_the_turning_time(self):
        self.assertEqual(curve(2500, 5000, 300, 400), 5001)
        self.assertEqual(curve(2500, 5000, 300, 500), 5008)
        self.assertEqual(curve(2500, 5000, 0, 300), 5027)

    def test_the_rise_is_rounded_down_on_both_sides(self):
        self.assertEqual(curve(2500, 5000, 300, 201), 5000)
        self.assertEqual(curve(2499, 5000, 300, 200), 5000)
        self.assertEqual(curve(2500, 5000, 300, 399), 5000)
        self.assertEqual(curve(2499, 5000, 300, 400), 5000)
        self.assertEqual(curve(2500, 5000, 300, 101), 5000 - 7)
        self.assertEqual(curve(2500, 5000, 300, 499), 5000 + 7)

    def test_a_time_below_0(self):
        self.assertEqual(curve(2500, 5000, 0, -100), 4999)
        self.assertEqual(curve(2500, 5000, 100, -100), 4992)
        self.assertEqual(curve(2500, 5000, 0, -1), 5000)

    def test_the_value_is_not_negative(self):
        self.assertEqual(curve(2500, 8, 300, 100), 0)
        self.assertEqual(curve(2500, 9, 300, 100), 1)
        self.assertEqual(curve(2500, 7, 300, 100), 0)
        self.assertEqual(curve(2500, 5000, 10 ** 6, 0), 0)
        self.assertEqual(curve(2500, 26, 100, -200), 0)

    def test_great_numbers(self):
        self.assertEqual(curve(10 ** 9, 7, 0, 10 ** 15), 7 + 4 * 10 ** 44)


class TurningTimeTest(unittest.TestCase):
    def test_an_mss_of_at_most_the_depth_in_small_parts(self):
        self.assertEqual(turning_time(2500, 1), 100)
        self.assertEqual(turning_time(2500, 8), 200)
        self.assertEqual(turning_time(2500, 7), 191)
        self.assertEqual(turning_time(1, 1), 1357)
        self.assertEqual(turning_time(SLOW, 1), 1)
        self.assertEqual(turning_time(1000, 300), root(300 * SLOW // 1000))

    def test_the_quotient_is_rounded_down_before_the_root(self):
        self.assertEqual(turning_time(2501, 1), 99)
        self.assertEqual(turning_time(2499, 1), 100)

    def test_a_greater_mss(self):
        self.assertEqual(turning_time(SLOW + 1, 1), 0)
        self.assertEqual(turning_time(2 * SLOW + 1, 2), 0)
        self.assertEqual(turning_time(2 * SLOW, 2), 1)

    def test_a_depth_of_0(self):
        self.assertEqual(turning_time(1, 0), 0)
        self.assertEqual(turning_time(1460, 0), 0)

    def test_many_depths(self):
        for mss in (1, 8, 536, 1460):
            for depth in (1, 2, 999, 10 ** 6, GREATEST):
                self.assertEqual(turning_time(mss, depth), root(depth * SLOW // mss))


class CubicTest(unittest.TestCase):
    def test_a_period_that_begins_below_the_peak(self):
        turning = root(500 * SLOW // 100)
        control = in_avoidance(peak=1500)
        self.assertEqual(acknowledge(control, 1, now=40)[1], (40, 1500, turning, 1000, 17))

    def test_a_period_that_begins_at_or_above_the_peak(self):
        for peak in (1000, 999, 1):
            control = in_avoidance(peak=peak)
            self.assertEqual(acknowledge(control, 1, now=40)[1], (40, 1000, 0, 1000, 17))

    def test_a_period_that_begins_without_a_peak(self):
        control = in_avoidance()
        self.assertEqual(acknowledge(control, 1, now=40), (1000, (40, 1000, 0, 1000, 17)))

    def test_a_period_that_begins_one_octet_below_the_peak(self):
        control = in_avoidance(peak=1001)
        self.assertEqual(acknowledge(control, 1, now=7)[1], (7, 1001, root(SLOW // 100), 1000, 17))

    def test_the_turning_time_is_of_the_mss_of_the_call(self):
        control = in_avoidance(peak=1500)
        self.assertEqual(acknowledge(control, 1, mss=10)[1], (0, 1500, root(500 * SLOW // 10), 1000, 17))

    def test_a_period_goes_on(self):
        control = in_avoidance(peak=9000, period=(5, 1000, 0, 500, 3))
        self.assertEqual(acknowledge(control, 2, now=9)[1], (5, 1000, 0, 500, 3 + 34))

    def test_slow_start_begins_no_period(self):
        control = in_avoidance()
        control.thresh = 1001
        self.assertEqual(acknowledge(control, 50), (1050, None))

    def test_the_friendly_credit_below_the_prior_window(self):
        control = in_avoidance(prior=2001, period=(0, 1000, 0, 2000, 0))
        self.assertEqual(acknowledge(control, 10)[1][3:], (2000, 90))

    def test_the_friendly_credit_at_or_above_the_prior_window(self):
        for prior in (2000, 1999, 0):
            control = in_avoidance(prior=prior, period=(0, 1000, 0, 2000, 0))
            self.assertEqual(acknowledge(control, 10)[1][3:], (2000, 170))

    def test_the_friendly_window_grows_by_a_full_credit(self):
        control = in_avoidance(period=(0, 1000, 0, 500, 16999 - 17))
        self.assertEqual(acknowledge(control, 1)[1][3:], (500, 16999))
        control = in_avoidance(period=(0, 1000, 0, 500, 17000 - 17))
        self.assertEqual(acknowledge(control, 1)[1][3:], (600, 0))
        control = in_avoidance(period=(0, 1000, 0, 500, 17001 - 17))
        self.assertEqual(acknowledge(control, 1, mss=3)[1][3:], (503, 1))

    def test_the_credit_is_reduced_once(self):
        control = in_avoidance(period=(0, 1000, 0, 500, 0))
        self.assertEqual(acknowledge(control, 3000)[1][3:], (600, 34000))

    def test_the_factor_is_that_of_the_friendly_window_before_it_grows(self):
        control = in_avoidance(prior=550, period=(0, 1000, 0, 500, 17000))
        self.assertEqual(acknowledge(control, 10)[1][3:], (600, 90))
        self.assertEqual(acknowledge(control, 10)[1][3:], (600, 260))

    def test_a_friendly_window_below_the_window(self):
        control = in_avoidance(period=(0, 1000, 0, 899, 17000))
        self.assertEqual(acknowledge(control, 1)[0], 1000)

    def test_a_friendly_window_above_the_window(self):
        control = in_avoidance(period=(0, 1000, 0, 899, 17000))
        self.assertEqual(acknowledge(control, 1, mss=102)[0], 1001)
        control = in_avoidance(period=(0, 1000, 0, 1450, 0))
        self.assertEqual(acknowledge(control, 1)[0], 1450)

    def test_the_friendly_window_has_no_bound(self):
        control = in_avoidance(cwnd=GREATEST - 1, period=(0, 1000, 0, GREATEST - 1, 17 * GREATEST))
        cwnd, period = acknowledge(control, 1)
        self.assertEqual((cwnd, period[3]), (GREATEST, GREATEST + 99))

    def test_a_wish_below_the_window(self):
        control = in_avoidance(period=(0, 900, 0, 0, 0))
        self.assertEqual(acknowledge(control, 1000, now=0)[0], 1000)

    def test_a_wish_between_the_window_and_half_as_much_again(self):
        # The curve is 1000 + 64 at a distance of 400 ticks for an mss of 2500.
        control = in_avoidance(prior=1, period=(0, 1000, 0, 0, 0))
        self.assertEqual(acknowledge(control, 1000, now=400, mss=2500)[0], 1064)
        control = in_avoidance(period=(100, 1000, 0, 0, 0))
        self.assertEqual(acknowledge(control, 500, now=500, mss=2500)[0], 1032)
        control = in_avoidance(period=(100, 1000, 0, 0, 0))
        self.assertEqual(acknowledge(control, 499, now=500, mss=2500)[0], 1031)
        control = in_avoidance(period=(100, 1000, 0, 0, 0))
        self.assertEqual(acknowledge(control, 15, now=500, mss=2500)[0], 1000)
        control = in_avoidance(period=(100, 1000, 0, 0, 0))
        self.assertEqual(acknowledge(control, 16, now=500, mss=2500)[0], 1001)

    def test_a_wish_beyond_half_as_much_again(self):
        for cwnd, expected in ((1000, 1500), (1001, 1501), (999, 1498)):
            control = in_avoidance(cwnd=cwnd, period=(0, 10 ** 6, 0, 0, 0))
            self.assertEqual(acknowledge(control, cwnd)[0], expected)

    def test_the_gain_of_many_octets(self):
        control = in_avoidance(period=(0, 10 ** 6, 0, 0, 0))
        self.assertEqual(acknowledge(control, 4000)[0], 3000)

    def test_the_window_is_that_of_before_in_all_steps(self):
        # The friendly window passes the window here, and the gain is still that of the old window.
        control = in_avoidance(period=(0, 10 ** 6, 0, 950, 17000))
        self.assertEqual(acknowledge(control, 100, now=0), (1050, (0, 10 ** 6, 0, 1050, 1700)))
        control = in_avoidance(period=(0, 10 ** 6, 0, 950, 17000))
        self.assertEqual(acknowledge(control, 102, now=0)[0], 1051)

    def test_a_tick_before_the_start_of_the_period(self):
        # With a time of -400 the wish would be less than 1064.
        control = in_avoidance(prior=1, period=(1000, 1064, 0, 0, 0))
        self.assertEqual(acknowledge(control, 1000, now=600, mss=2500)[0], 1064)

    def test_before_the_turning_time(self):
        control = in_avoidance(prior=1, period=(100, 1464, 500, 0, 0))
        self.assertEqual(acknowledge(control, 1000, now=200, mss=2500)[0], 1400)

    def test_a_loss_ends_the_period(self):
        for name in ("lose", "time_out"):
            control = in_avoidance(period=(1, 2, 3, 4, 5))
            getattr(control, name)(100, flight=500)
            self.assertIsNone(control.period)
        control = in_avoidance(period=(1, 2, 3, 4, 5))
        self.assertTrue(control.mark(100, 1, flight=500, length=1))
        self.assertIsNone(control.period)
        control.period = (1, 2, 3, 4, 5)
        self.assertFalse(control.mark(100, 1, flight=500, length=1))
        self.assertEqual(control.period, (1, 2, 3, 4, 5))

    def test_the_period_is_a_tuple(self):
        control = in_avoidance()
        self.assertIsInstance(acknowledge(control, 1)[1], tuple)

    def test_rows_of_calls(self):
        draws = random.Random(62)
        for _ in range(60):
            control, model = Cubic(draws.choice([1, 100, 1460])), None
            model = Model(control.cwnd)
            now = 0
            for _ in range(60):
                now += draws.choice([0, 1, 20, 300, 4000])
                mss = draws.choice([1, 100, 100, 1460])
                flight = draws.choice([0, 500, 20000, 10 ** 6])
                if draws.random() < 0.1:
                    control.lose(mss, flight=flight)
                    model.lose(mss, flight)
                else:
                    octets = draws.choice([0, 1, 99, 100, 101, 3000])
                    control.acknowledge(mss, now, octets, flight=flight, recovering=False)
                    model.acknowledge(mss, now, octets, flight)
                self.assertEqual((control.cwnd, control.thresh, control.peak, control.prior, control.period),
                                 (model.cwnd, model.thresh, model.peak, model.prior, model.period))


class Model:
    """Points 56, 58 and 62, written down once more."""

    def __init__(self, cwnd):
        self.cwnd, self.thresh, self.peak, self.prior, self.period = cwnd, GREATEST, 0, 0, None

    def lose(self, mss, flight):
        w = self.cwnd
        self.peak = 17 * w // 20 if w < self.peak else w
        self.prior, self.period = w, None
        self.cwnd = self.thresh = min(GREATEST, max(2 * mss, 7 * min(flight, w) // 10))

    def acknowledge(self, mss, now, octets, flight):
        w = self.cwnd
        if not octets or flight + octets + mss <= w:
            return
        if w < self.thresh:
            self.cwnd = min(GREATEST, w + min(mss, octets))
            return
        if self.period is None:
            below = w < self.peak
            self.period = (now, self.peak if below else w, root((self.peak - w) * SLOW // mss) if below else 0, w, 0)
        start, origin, turning, friendly, credit = self.period
        credit += octets * (9 if friendly < self.prior else 17)
        if credit >= 17 * w:
            credit, friendly = credit - 17 * w, friendly + mss
        self.period = (start, origin, turning, friendly, credit)
        away = now - start - turning
        wish = origin + mss * away ** 3 // SLOW if away > 0 else max(0, origin - mss * (-away) ** 3 // SLOW)
        target = min(max(wish, w), w + w // 2)
        self.cwnd = min(GREATEST, max(friendly, w + (target - w) * octets // w))


if __name__ == "__main__":
    unittest.main()
