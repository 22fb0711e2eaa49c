"""One channel, as one side knows it (points 112, 114 and 117)."""


class Channel:
    """What is written and read at one side of a channel."""

    def __init__(self, number, *, announced):
        self.number = number
        self.announced = announced
        # Written, and in no frame yet.
        self.queue = []
        self.credit = 0
        self.finished = False
        self.end_sent = False
        # Has come, and was not read.
        self.unread = []
        self.due = 0
        self.end_came = False
        # None, or a pair: "here" or "there", and the code.
        self.broken = None
        self.reset_told = False

    def break_off(self, place, code):
        """Resets the channel; nothing that waits in it is of use any more."""
        self.broken = (place, code)
        self.queue = []
        self.unread = []

    def has_untold_reset(self):
        return self.broken is not None and self.broken[0] == "here" and not self.reset_told

    def owed(self, window):
        """Returns how many octets to permit now: 0 if so few are owed that it is not worth a frame."""
        if self.broken is not None or self.end_came:
            return 0
        owed = window - self.due - len(self.unread)
        return owed if 2 * owed >= window else 0

    def has_octets_to_send(self):
        return self.broken is None and len(self.queue) > 0 and self.credit > 0

    def has_end_to_send(self):
        return self.broken is None and self.finished and len(self.queue) == 0 and not self.end_sent

    def take_octets(self, most):
        """Returns the next octets that the other side permits, at most so many."""
        octets = self.queue[:min(self.credit, most)]
        del self.queue[:len(octets)]
        self.credit -= len(octets)
        return octets

    def fork(self):
        """Returns an equal channel that goes on alone."""
        other = Channel(self.number, announced=self.announced)
        other.queue = list(self.queue)
        other.credit = self.credit
        other.finished = self.finished
        other.end_sent = self.end_sent
        other.unread = list(self.unread)
        other.due = self.due
        other.end_came = self.end_came
        other.broken = self.broken
        other.reset_told = self.reset_told
        return other
