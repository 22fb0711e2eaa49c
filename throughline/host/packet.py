"""Packets (point 79)."""


class Packet:
    """What the network carries from an address to an address."""

    def __init__(self, sender, target, octets, *, marked=False):
        self.sender = sender
        self.target = target
        self.octets = list(octets)
        self.marked = marked

    def with_mark(self):
        """Returns an equal packet that is marked."""
        return Packet(self.sender, self.target, self.octets, marked=True)

    def fork(self):
        """Returns an equal packet with octets of its own."""
        return Packet(self.sender, self.target, self.octets, marked=self.marked)

    def __eq__(self, other):
        if not isinstance(other, Packet):
            return False
        return self._fields() == other._fields()

    def _fields(self):
        return self.sender, self.target, self.octets, self.marked
