"""The options of a host (points 78 and 82)."""

from throughline.errors import InvalidOptions

MOST_TICKS = 1073741824
MOST_UNDER_WAY = 1073741824
GREATEST_WINDOW = 65535


class Options:
    """What a host, and each connection of it, keeps to."""

    def __init__(self, *, mss, room, life, pace, tries, min_rto, max_rto, ack_delay=0, keep_alive=0, nagle=False,
                 control="reno"):
        self.mss = mss
        self.room = room
        self.life = life
        self.pace = pace
        self.tries = tries
        self.min_rto = min_rto
        self.max_rto = max_rto
        self.ack_delay = ack_delay
        self.keep_alive = keep_alive
        self.nagle = nagle
        self.control = control
        wrong = self._wrong_names()
        if len(wrong) > 0:
            raise InvalidOptions("wrong values: " + ", ".join(wrong))

    @property
    def patience(self):
        return self.tries * self.max_rto

    @property
    def shift(self):
        return min([k for k in range(15) if self.room // 2 ** k <= GREATEST_WINDOW])

    @property
    def resting(self):
        return self.life + self.patience

    def fork(self):
        """Returns equal options of their own."""
        return Options(mss=self.mss, room=self.room, life=self.life, pace=self.pace, tries=self.tries,
                       min_rto=self.min_rto, max_rto=self.max_rto, ack_delay=self.ack_delay,
                       keep_alive=self.keep_alive, nagle=self.nagle, control=self.control)

    def __eq__(self, other):
        if not isinstance(other, Options):
            return False
        return self._fields() == other._fields()

    def _fields(self):
        return (self.mss, self.room, self.life, self.pace, self.tries, self.min_rto, self.max_rto, self.ack_delay,
                self.keep_alive, self.nagle, self.control)

    def _wrong_names(self):
        checks = [
            ("mss", 8 <= self.mss <= 1460),
            ("room", 2 * self.mss <= self.room <= 262144),
            ("life", self.life >= 1),
            ("pace", self.pace >= 1 and self.pace * (self.life + 1) <= MOST_UNDER_WAY),
            ("tries", 1 <= self.tries <= 100),
            ("min_rto", self.min_rto >= 1),
            ("max_rto", self.min_rto <= self.max_rto <= MOST_TICKS),
            ("ack_delay", 0 <= self.ack_delay < self.min_rto),
            ("keep_alive", 0 <= self.keep_alive <= MOST_TICKS),
            ("nagle", isinstance(self.nagle, bool)),
            ("control", self.control in ("reno", "cubic")),
        ]
        return [name for name, is_right in checks if not is_right]
