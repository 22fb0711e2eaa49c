"""What both kinds of congestion control have in common (points 54 to 60)."""


class Control:
    """How many octets may be on their way at once."""

    GREATEST = 1073741824

    def __init__(self, mss):
        self.cwnd = self._bounded(10 * mss)
        self.thresh = Control.GREATEST
        self.peak = 0
        self.prior = 0
        self.calm = 0

    def acknowledge(self, mss, now, octets, *, flight, recovering):
        """Takes an acknowledgement of new octets; it counts only if the window was used."""
        if recovering or octets == 0 or flight + octets + mss <= self.cwnd:
            return
        if self.cwnd < self.thresh:
            self.cwnd = self._bounded(self.cwnd + min(octets, mss))
        else:
            self._avoid(mss, now, octets)

    def lose(self, mss, *, flight):
        """Takes a loss."""
        share = self._share(min(flight, self.cwnd))
        self.thresh = self._bounded(max(share, 2 * mss))
        self.peak = 17 * self.cwnd // 20 if self.cwnd < self.peak else self.cwnd
        self.prior = self.cwnd
        self.cwnd = self.thresh
        self._begin_anew()

    def time_out(self, mss, *, flight):
        """Takes a timeout: a loss after which the window begins again."""
        self.lose(mss, flight=flight)
        self.cwnd = self._bounded(mss)

    def mark(self, mss, now, *, flight, length):
        """Takes a mark of congestion, and returns whether it counts: one in each round does."""
        if now < self.calm:
            return False
        self.lose(mss, flight=flight)
        self.calm = now + length
        return True

    def _bounded(self, octets):
        return min(octets, Control.GREATEST)

    def _give_to(self, other):
        other.cwnd = self.cwnd
        other.thresh = self.thresh
        other.peak = self.peak
        other.prior = self.prior
        other.calm = self.calm

    # Each kind of control has these three of its own.

    def _avoid(self, mss, now, octets):
        raise NotImplementedError("no kind of control")

    def _share(self, base):
        raise NotImplementedError("no kind of control")

    def _begin_anew(self):
        raise NotImplementedError("no kind of control")
