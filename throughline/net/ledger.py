"""The ledger: what applications have written, read and finished, for good (point 97)."""


class Ledger:
    """Iteration goes over the noted pairs of a host index and a socket number."""

    def __init__(self):
        # The pairs as keys, in the order in which they were first noted.
        self._noted = {}
        self._written = {}
        self._was_read = {}
        self._finished = {}

    def note_write(self, host, socket, octets):
        """Notes octets that a write has taken."""
        self._noted[host, socket] = True
        self._written.setdefault((host, socket), []).extend(list(octets))

    def note_read(self, host, socket, octets):
        """Notes octets that a read has returned."""
        self._noted[host, socket] = True
        self._was_read.setdefault((host, socket), []).extend(list(octets))

    def note_finish(self, host, socket):
        """Notes that the socket has finished."""
        self._noted[host, socket] = True
        self._finished[host, socket] = True

    def written(self, host, socket):
        return list(self._written.get((host, socket), ()))

    def was_read(self, host, socket):
        return list(self._was_read.get((host, socket), ()))

    def has_finished(self, host, socket):
        return (host, socket) in self._finished

    def fork(self):
        """Returns an equal ledger that goes on alone."""
        other = Ledger()
        other._noted = {key: True for key in self._noted}
        other._written = {key: list(self._written[key]) for key in self._written}
        other._was_read = {key: list(self._was_read[key]) for key in self._was_read}
        other._finished = {key: True for key in self._finished}
        return other

    def __iter__(self):
        return iter(self._noted)
