"""What both kinds of control have in common."""

import unittest

from throughline.pace.control import Control
from throughline.pace.cubic import Cubic
from throughline.pace.reno import Reno

KINDS = (Reno, Cubic)
GREATEST = 1073741824
COMMON = ("cwnd", "thresh", "peak", "prior", "calm")


def values(control):
    last = control.credit if isinstance(control, Reno) else control.period
    return tuple(getattr(control, name) for name in COMMON) + (last,)


def made(kind, **fields):
    """A control with the given fields, and with a credit or a period that shows whether it is forgotten."""
    control = kind(100)
    for name, value in fields.items():
        setattr(control, name, value)
    if kind is Reno:
        control.credit = 77
    else:
        control.period = (1, 2, 3, 4, 5)
    return control


def begun(kind):
    return 0 if kind is Reno else None


class ControlTest(unittest.TestCase):
    def test_the_first_values(self):
        for kind in KINDS:
            for mss in (1, 8, 100, 1460):
                self.assertEqual(values(kind(mss)), (10 * mss, GREATEST, 0, 0, 0, begun(kind)))
            self.assertIsInstance(kind(1), Control)
        self.assertEqual(Control.GREATEST, GREATEST)
        self.assertEqual((Reno.GREATEST, Cubic(1).GREATEST), (GREATEST, GREATEST))

    def test_the_first_window_is_at_most_the_greatest_one(self):
        for kind in KINDS:
            self.assertEqual(kind(107374182).cwnd, 1073741820)
            self.assertEqual(kind(107374183).cwnd, GREATEST)
            self.assertEqual(kind(GREATEST).cwnd, GREATEST)

    def test_an_acknowledgement_in_slow_start(self):
        for kind in KINDS:
            for octets, cwnd in ((1, 1001), (99, 1099), (100, 1100), (101, 1100), (900, 1100)):
                control = kind(100)
                self.assertIsNone(control.acknowledge(100, 5, octets, flight=1000, recovering=False))
                self.assertEqual(values(control), (cwnd, GREATEST, 0, 0, 0, begun(kind)))

    def test_the_mss_is_that_of_the_call(self):
        for kind in KINDS:
            control = kind(100)
            control.acknowledge(30, 0, 500, flight=1000, recovering=False)
            self.assertEqual(control.cwnd, 1030)
            control.acknowledge(700, 0, 500, flight=1000, recovering=False)
            self.assertEqual(control.cwnd, 1530)
            control.acknowledge(700, 0, 900, flight=1000, recovering=False)
            self.assertEqual(control.cwnd, 2230)

    def test_nothing_changes_in_a_recovery(self):
        for kind in KINDS:
            for thresh in (GREATEST, 500):
                control = made(kind, thresh=thresh)
                before = values(control)
                control.acknowledge(100, 5, 100, flight=1000, recovering=True)
                self.assertEqual(values(control), before)

    def test_nothing_changes_without_new_octets(self):
        for kind in KINDS:
            for thresh in (GREATEST, 500):
                control = made(kind, thresh=thresh)
                before = values(control)
                control.acknowledge(100, 5, 0, flight=5000, recovering=False)
                self.assertEqual(values(control), before)
            # Also where there would be no period yet.
            control = kind(100)
            control.thresh = 500
            control.acknowledge(100, 5, 0, flight=5000, recovering=False)
            self.assertEqual(values(control), (1000, 500, 0, 0, 0, begun(kind)))

    def test_nothing_changes_if_the_window_was_not_used(self):
        for kind in KINDS:
            for mss, octets, flight in ((100, 200, 700), (100, 1, 0), (1, 1, 998), (300, 300, 400), (100, 900, 0)):
                for thresh in (GREATEST, 500):
                    control = made(kind, thresh=thresh)
                    before = values(control)
                    control.acknowledge(mss, 5, octets, flight=flight, recovering=False)
                    self.assertEqual(values(control), before)

    def test_the_window_was_used_if_one_octet_more_is_on_its_way(self):
        for kind in KINDS:
            for mss, octets, flight in ((100, 200, 701), (1, 1, 999), (300, 300, 401), (101, 200, 700)):
                control = kind(100)
                control.acknowledge(mss, 5, octets, flight=flight, recovering=False)
                self.assertEqual(control.cwnd, 1000 + min(octets, mss))

    def test_slow_start_goes_on_up_to_the_threshold(self):
        for kind in KINDS:
            control = kind(100)
            control.thresh = 1001
            control.acknowledge(100, 5, 100, flight=1000, recovering=False)
            self.assertEqual(values(control), (1100, 1001, 0, 0, 0, begun(kind)))
            control = kind(100)
            control.thresh = 1000
            control.acknowledge(100, 5, 100, flight=1000, recovering=False)
            self.assertNotEqual(values(control)[-1], begun(kind))

    def test_slow_start_ends_at_the_greatest_window(self):
        for kind in KINDS:
            control = made(kind, cwnd=GREATEST - 50)
            control.acknowledge(100, 5, 49, flight=GREATEST, recovering=False)
            self.assertEqual(control.cwnd, GREATEST - 1)
            control.acknowledge(100, 5, 100, flight=GREATEST, recovering=False)
            self.assertEqual(control.cwnd, GREATEST)

    def test_avoidance_ends_at_the_greatest_window(self):
        for kind in KINDS:
            control = made(kind, cwnd=GREATEST - 50, thresh=1)
            if kind is Cubic:
                control.period = (0, 2 * GREATEST, 0, 0, 0)
            control.acknowledge(1000, 5, GREATEST, flight=GREATEST, recovering=False)
            self.assertEqual(control.cwnd, GREATEST)

    def test_a_loss_with_a_flight_below_the_window(self):
        for kind, share in ((Reno, 400), (Cubic, 560)):
            control = made(kind, cwnd=1000, thresh=5, peak=3, prior=4, calm=6)
            self.assertIsNone(control.lose(100, flight=801))
            self.assertEqual(values(control), (share, share, 1000, 1000, 6, begun(kind)))

    def test_a_loss_with_a_flight_at_or_above_the_window(self):
        for kind, share in ((Reno, 500), (Cubic, 700)):
            for flight in (1001, 1002, 50000):
                control = made(kind, cwnd=1001)
                control.lose(100, flight=flight)
                self.assertEqual(values(control), (share, share, 1001, 1001, 0, begun(kind)))

    def test_a_share_below_two_segments(self):
        for kind, flight in ((Reno, 398), (Reno, 0), (Cubic, 284), (Cubic, 0)):
            control = made(kind, cwnd=1000)
            control.lose(100, flight=flight)
            self.assertEqual(values(control), (200, 200, 1000, 1000, 0, begun(kind)))
        for kind, flight, share in ((Reno, 402, 201), (Reno, 401, 200), (Cubic, 288, 201), (Cubic, 287, 200)):
            control = made(kind, cwnd=1000)
            control.lose(100, flight=flight)
            self.assertEqual((control.cwnd, control.thresh), (share, share))

    def test_the_window_may_grow_by_a_loss(self):
        for kind in KINDS:
            control = made(kind, cwnd=150)
            control.lose(100, flight=150)
            self.assertEqual(values(control), (200, 200, 150, 150, 0, begun(kind)))

    def test_the_threshold_is_at_most_the_greatest_window(self):
        for kind in KINDS:
            for mss in (GREATEST // 2 + 1, GREATEST):
                control = kind(100)
                control.lose(mss, flight=1000)
                self.assertEqual((control.cwnd, control.thresh), (GREATEST, GREATEST))
            control = kind(100)
            control.lose(GREATEST // 2 - 1, flight=1000)
            self.assertEqual((control.cwnd, control.thresh), (GREATEST - 2, GREATEST - 2))

    def test_the_peak_of_a_window_below_the_peak(self):
        for kind in KINDS:
            for window, peak in ((1000, 850), (999, 849), (1019, 866), (20, 17), (19, 16)):
                control = made(kind, cwnd=window, peak=1020)
                control.lose(100, flight=1000)
                self.assertEqual((control.peak, control.prior), (peak, window))

    def test_the_peak_of_a_window_at_or_above_the_peak(self):
        for kind in KINDS:
            for window in (1020, 1021, 5000):
                control = made(kind, cwnd=window, peak=1020)
                control.lose(100, flight=1000)
                self.assertEqual((control.peak, control.prior), (window, window))

    def test_several_losses(self):
        for kind, expected in ((Reno, [(1000, 2000, 2000), (500, 850, 1000), (250, 425, 500)]),
                               (Cubic, [(1400, 2000, 2000), (980, 1190, 1400), (686, 833, 980)])):
            control = made(kind, cwnd=2000)
            for cwnd, peak, prior in expected:
                control.lose(100, flight=5000)
                self.assertEqual((control.cwnd, control.thresh, control.peak, control.prior), (cwnd, cwnd, peak, prior))

    def test_a_timeout(self):
        for kind, share in ((Reno, 400), (Cubic, 560)):
            control = made(kind, cwnd=1000, thresh=5, peak=1001, prior=4, calm=6)
            self.assertIsNone(control.time_out(100, flight=801))
            self.assertEqual(values(control), (100, share, 850, 1000, 6, begun(kind)))
            control.time_out(30, flight=801)
            self.assertEqual(control.cwnd, 30)

    def test_the_window_of_a_timeout_is_at_most_the_greatest_one(self):
        for kind in KINDS:
            control = kind(100)
            control.time_out(GREATEST + 5, flight=1000)
            self.assertEqual((control.cwnd, control.thresh), (GREATEST, GREATEST))

    def test_a_mark_before_the_calm_tick_is_ignored(self):
        for kind in KINDS:
            for now in (0, 49):
                control = made(kind, calm=50)
                before = values(control)
                self.assertIs(control.mark(100, now, flight=900, length=7), False)
                self.assertEqual(values(control), before)

    def test_a_mark_at_or_behind_the_calm_tick_counts(self):
        for kind, share in ((Reno, 450), (Cubic, 630)):
            for now in (50, 51, 900):
                control = made(kind, cwnd=1000, calm=50)
                self.assertIs(control.mark(100, now, flight=900, length=7), True)
                self.assertEqual(values(control), (share, share, 1000, 1000, now + 7, begun(kind)))

    def test_marks_in_a_row(self):
        for kind in KINDS:
            control = kind(100)
            found = [control.mark(100, now, flight=900, length=3) for now in (0, 1, 2, 3, 3, 4, 5, 6, 20, 22, 23)]
            self.assertEqual(found, [True, False, False, True, False, False, False, True, True, False, True])
            self.assertEqual(control.calm, 26)

    def test_a_mark_counts_as_a_loss_does(self):
        for kind in KINDS:
            one, other = made(kind, cwnd=999, peak=1020), made(kind, cwnd=999, peak=1020)
            self.assertTrue(one.mark(50, 10, flight=30, length=1))
            other.lose(50, flight=30)
            other.calm = 11
            self.assertEqual(values(one), values(other))

    def test_a_fork_has_the_same_values(self):
        for kind in KINDS:
            control = made(kind, cwnd=1, thresh=2, peak=3, prior=4, calm=5)
            other = control.fork()
            self.assertIsNot(other, control)
            self.assertIs(other.__class__, kind)
            self.assertEqual(values(other), values(control))

    def test_a_fork_goes_on_alone(self):
        for kind in KINDS:
            control = kind(100)
            control.mark(100, 7, flight=1000, length=3)
            control.acknowledge(100, 9, 400, flight=1000, recovering=False)
            before = values(control)
            other = control.fork()
            other.acknowledge(100, 9, 300, flight=1000, recovering=False)
            other.mark(100, 20, flight=400, length=3)
            other.time_out(100, flight=400)
            self.assertEqual(values(control), before)
            fork = control.fork()
            control.acknowledge(100, 9, 300, flight=1000, recovering=False)
            control.mark(100, 20, flight=400, length=3)
            self.assertNotEqual(values(control), before)
            self.assertEqual(values(fork), before)

    def test_a_fork_does_the_same_as_the_one_that_it_was_made_of(self):
        for kind in KINDS:
            control = kind(100)
            control.lose(100, flight=1000)
            control.acknowledge(100, 9, 400, flight=1000, recovering=False)
            other = control.fork()
            for one in (control, other):
                for now in range(10, 400, 7):
                    one.acknowledge(100, now, 150, flight=5000, recovering=False)
                one.mark(100, 500, flight=700, length=40)
                one.acknowledge(100, 510, 150, flight=5000, recovering=False)
            self.assertEqual(values(other), values(control))


if __name__ == "__main__":
    unittest.main()
