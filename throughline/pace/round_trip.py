"""Round-trip estimates and the waits of a timeout (points 46 to 52)."""


class RoundTrip:
    """How long an answer takes, and how long to wait for one."""

    def __init__(self, least, most):
        self.least = least
        self.most = most
        # In eighths of a tick and in quarters of a tick.
        self.srtt = 0
        self.variance = 0
        self.rto = self._within_bounds(4 * least)
        self.measured = False

    @property
    def round_ticks(self):
        return max(1, self.srtt // 8)

    def sample(self, trip):
        """Takes a measured time."""
        if self.measured:
            error = abs(self.srtt - 8 * trip) // 8
            self.srtt = self.srtt - self.srtt // 8 + trip
            self.variance = self.variance - self.variance // 4 + error
        else:
            self.srtt = 8 * trip
            self.variance = 2 * trip
            self.measured = True
        self.rto = self._within_bounds(self.srtt // 8 + max(1, self.variance))

    def back_off(self):
        self.rto = min(2 * self.rto, self.most)

    def fork(self):
        """Returns an equal estimate that goes on alone."""
        other = RoundTrip(self.least, self.most)
        other.srtt = self.srtt
        other.variance = self.variance
        other.rto = self.rto
        other.measured = self.measured
        return other

    def _within_bounds(self, ticks):
        return min(max(ticks, self.least), self.most)


def waits(timeout, count, *, most):
    """Yields the first waits of the timeout, in order."""
    wait = timeout
    for _ in range(count):
        yield wait
        wait = min(2 * wait, most)
