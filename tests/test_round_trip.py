import random
import unittest

from throughline.pace.round_trip import RoundTrip, waits

FIELDS = ("srtt", "variance", "rto", "least", "most", "measured")


def values(trip):
    return tuple(getattr(trip, name) for name in FIELDS)


class RoundTripTest(unittest.TestCase):
    def test_before_the_first_measured_time(self):
        self.assertEqual(values(RoundTrip(10, 1000)), (0, 0, 40, 10, 1000, False))

    def test_the_first_timeout_is_kept_within_the_bounds(self):
        for least, most, rto in ((10, 40, 40), (10, 39, 39), (10, 41, 40), (10, 10, 10), (1, 1, 1), (1, 3, 3),
                                 (1, 9, 4)):
            self.assertEqual(RoundTrip(least, most).rto, rto)

    def test_the_first_measured_time(self):
        trip = RoundTrip(1, 1000)
        self.assertIsNone(trip.sample(20))
        self.assertEqual(values(trip), (160, 40, 60, 1, 1000, True))

    def test_a_first_measured_time_of_0(self):
        trip = RoundTrip(1, 1000)
        trip.sample(0)
        self.assertEqual(values(trip), (0, 0, 1, 1, 1000, True))
        trip.sample(20)
        self.assertEqual(values(trip), (20, 20, 22, 1, 1000, True))

    def test_later_measured_times(self):
        trip = RoundTrip(1, 1000)
        trip.sample(20)
        trip.sample(30)
        self.assertEqual(values(trip), (170, 40, 61, 1, 1000, True))
        trip.sample(5)
        self.assertEqual(values(trip), (154, 46, 65, 1, 1000, True))
        trip.sample(19)
        self.assertEqual(values(trip), (154, 35, 54, 1, 1000, True))

    def test_the_error_has_no_sign_and_is_rounded_down(self):
        trip = RoundTrip(1, 1000)
        trip.sample(2)
        trip.sample(3)
        self.assertEqual((trip.srtt, trip.variance), (17, 4))
        trip.sample(3)
        self.assertEqual((trip.srtt, trip.variance), (18, 3))
        trip.sample(2)
        self.assertEqual((trip.srtt, trip.variance), (18, 3))

    def test_a_variation_of_0_counts_as_1(self):
        trip = RoundTrip(1, 1000)
        trip.sample(0)
        trip.sample(0)
        self.assertEqual((trip.variance, trip.rto), (0, 1))
        trip = RoundTrip(1, 1000)
        trip.sample(1)
        self.assertEqual((trip.srtt, trip.variance, trip.rto), (8, 2, 3))

    def test_the_timeout_at_its_least_value(self):
        trip = RoundTrip(31, 1000)
        trip.sample(10)
        self.assertEqual(trip.rto, 31)
        for least in (29, 30):
            trip = RoundTrip(least, 1000)
            trip.sample(10)
            self.assertEqual(trip.rto, 30)

    def test_the_timeout_at_its_greatest_value(self):
        for most, rto in ((29, 29), (30, 30), (31, 30)):
            trip = RoundTrip(1, most)
            trip.sample(10)
            self.assertEqual(trip.rto, rto)
        self.assertEqual(trip.srtt, 80)

    def test_backing_off(self):
        trip = RoundTrip(10, 300)
        for rto in (80, 160, 300, 300):
            self.assertIsNone(trip.back_off())
            self.assertEqual(values(trip), (0, 0, rto, 10, 300, False))
        trip = RoundTrip(10, 80)
        trip.back_off()
        self.assertEqual(trip.rto, 80)

    def test_a_measured_time_after_backing_off(self):
        trip = RoundTrip(10, 1000)
        trip.sample(20)
        trip.back_off()
        trip.back_off()
        self.assertEqual(values(trip), (160, 40, 240, 10, 1000, True))
        trip.sample(20)
        self.assertEqual(values(trip), (160, 30, 50, 10, 1000, True))

    def test_a_round_lasts_at_least_1_tick(self):
        trip = RoundTrip(1, 1000)
        self.assertEqual(trip.round_ticks, 1)
        for first, ticks in ((0, 1), (1, 1), (2, 2), (50, 50)):
            trip = RoundTrip(1, 1000)
            trip.sample(first)
            self.assertEqual(trip.round_ticks, ticks)

    def test_a_round_is_rounded_down(self):
        trip = RoundTrip(1, 1000)
        trip.sample(2)
        trip.sample(9)
        self.assertEqual((trip.srtt, trip.round_ticks), (23, 2))
        trip.sample(3)
        self.assertEqual((trip.srtt, trip.round_ticks), (24, 3))

    def test_a_fork_goes_on_alone(self):
        trip = RoundTrip(10, 1000)
        trip.sample(20)
        trip.back_off()
        other = trip.fork()
        self.assertIsNot(other, trip)
        self.assertEqual(values(other), (160, 40, 120, 10, 1000, True))
        other.sample(90)
        self.assertEqual(values(trip), (160, 40, 120, 10, 1000, True))
        self.assertEqual(values(other), (230, 100, 128, 10, 1000, True))
        trip.back_off()
        self.assertEqual(other.rto, 128)
        self.assertEqual(trip.rto, 240)

    def test_a_fork_of_a_new_estimate(self):
        other = RoundTrip(10, 1000).fork()
        self.assertEqual(values(other), (0, 0, 40, 10, 1000, False))
        other.sample(20)
        self.assertEqual(other.srtt, 160)

    def test_many_measured_times(self):
        draws = random.Random(2)
        for _ in range(50):
            least = draws.randrange(1, 50)
            most = least + draws.randrange(200)
            trip, smooth, vary = RoundTrip(least, most), None, None
            for _ in range(40):
                time = draws.choice([0, 1, draws.randrange(300)])
                trip.sample(time)
                if smooth is None:
                    smooth, vary = 8 * time, 2 * time
                else:
                    error = abs(smooth - 8 * time) // 8
                    smooth, vary = smooth - smooth // 8 + time, vary - vary // 4 + error
                rto = min(most, max(least, smooth // 8 + (vary or 1)))
                self.assertEqual(values(trip), (smooth, vary, rto, least, most, True))
                self.assertEqual(trip.round_ticks, max(1, smooth // 8))


class WaitsTest(unittest.TestCase):
    def test_none(self):
        self.assertEqual(list(waits(10, 0, most=100)), [])

    def test_several(self):
        self.assertEqual(list(waits(10, 1, most=100)), [10])
        self.assertEqual(list(waits(10, 6, most=100)), [10, 20, 40, 80, 100, 100])
        self.assertEqual(list(waits(3, 4, most=24)), [3, 6, 12, 24])
        self.assertEqual(list(waits(3, 5, most=23)), [3, 6, 12, 23, 23])
        self.assertEqual(list(waits(1, 32, most=2 ** 40)), [2 ** k for k in range(32)])

    def test_a_timeout_that_is_the_greatest_one(self):
        self.assertEqual(list(waits(7, 3, most=7)), [7, 7, 7])
        self.assertEqual(list(waits(1, 2, most=1)), [1, 1])

    def test_they_are_made_one_by_one(self):
        found = waits(5, 10 ** 9, most=50)
        self.assertEqual([next(found) for _ in range(5)], [5, 10, 20, 40, 50])


if __name__ == "__main__":
    unittest.main()
