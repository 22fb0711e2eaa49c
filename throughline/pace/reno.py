"""Reno control (point 57)."""

from throughline.pace.control import Control


class Reno(Control):
    """Grows by one segment for each window of acknowledged octets."""

    def __init__(self, mss):
        super().__init__(mss)
        self.credit = 0

    def fork(self):
        """Returns an equal control that goes on alone."""
        other = Reno(1)
        self._give_to(other)
        other.credit = self.credit
        return other

    def _avoid(self, mss, now, octets):
        self.credit += octets
        if self.credit >= self.cwnd:
            self.credit -= self.cwnd
            self.cwnd = self._bounded(self.cwnd + mss)

    def _share(self, base):
        return base // 2

    def _begin_anew(self):
        self.credit = 0
