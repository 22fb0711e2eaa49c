"""Records: what happens to packets (point 96)."""


class Record:
    """What happened to a packet at a tick."""

    def __init__(self, tick, number, word, packet):
        self.tick = tick
        self.number = number
        self.word = word
        self.packet = packet.fork()

    def fork(self):
        """Returns an equal record of its own."""
        return Record(self.tick, self.number, self.word, self.packet)

    def __eq__(self, other):
        if not isinstance(other, Record):
            return False
        if self.tick != other.tick or self.number != other.number:
            return False
        return self.word == other.word and self.packet == other.packet
