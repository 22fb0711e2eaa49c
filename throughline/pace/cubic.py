"""Cubic control (points 61 and 62)."""

from throughline.pace.control import Control
from throughline.pace.roots import cube_root

# The rise of one octet of mss takes the cube root of so many ticks.
SLOWNESS = 2500000000


def curve(mss, origin, turning, at):
    """Returns the value of the curve: it rises up to its origin, rests there, and rises on."""
    if at <= turning:
        return max(0, origin - _rise(mss, turning - at))
    return origin + _rise(mss, at - turning)


def turning_time(mss, depth):
    """Returns how long a curve takes from so many octets below its origin."""
    return cube_root(depth * SLOWNESS // mss)


def _rise(mss, distance):
    return mss * distance ** 3 // SLOWNESS


class Cubic(Control):
    """Grows along a curve that is flat at the window of the last loss."""

    def __init__(self, mss):
        super().__init__(mss)
        self.period = None

    def fork(self):
        """Returns an equal control that goes on alone."""
        other = Cubic(1)
        self._give_to(other)
        other.period = self.period
        return other

    def _avoid(self, mss, now, octets):
        if self.period is None:
            self.period = self._new_period(mss, now)
        start, origin, turning, friendly, credit = self.period
        credit += (9 if friendly < self.prior else 17) * octets
        if credit >= 17 * self.cwnd:
            credit -= 17 * self.cwnd
            friendly += mss
        self.period = (start, origin, turning, friendly, credit)
        wish = curve(mss, origin, turning, max(0, now - start))
        target = min(max(wish, self.cwnd), self.cwnd + self.cwnd // 2)
        gain = (target - self.cwnd) * octets // self.cwnd
        self.cwnd = self._bounded(max(friendly, self.cwnd + gain))

    def _new_period(self, mss, now):
        if self.cwnd < self.peak:
            return now, self.peak, turning_time(mss, self.peak - self.cwnd), self.cwnd, 0
        return now, self.cwnd, 0, self.cwnd, 0

    def _share(self, base):
        return 7 * base // 10

    def _begin_anew(self):
        self.period = None
