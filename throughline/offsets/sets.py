"""Sets of offsets that change (points 22 to 26)."""

from throughline.offsets.ranges import (
    add_range, contains, count_inside, cut_below, first_free, free_stop, loss_edge, total)


class OffsetSet:
    """A set of offsets; iteration goes over its ranges."""

    def __init__(self, ranges=()):
        self._ranges = []
        for start, stop in ranges:
            self.include(start, stop)

    def include(self, start, stop):
        self._ranges = add_range(self._ranges, start, stop)

    def discard_below(self, limit):
        self._ranges = cut_below(self._ranges, limit)

    def count_between(self, start, stop):
        return count_inside(self._ranges, start, stop)

    def first_free(self, start):
        return first_free(self._ranges, start)

    def free_end(self, start, stop):
        return free_stop(self._ranges, start, stop)

    def loss_edge(self, amount):
        return loss_edge(self._ranges, amount)

    def resume(self, ranges):
        """Goes on with these ranges, as they are."""
        self._ranges = list(ranges)

    def fork(self):
        """Returns an equal set of its own."""
        other = OffsetSet()
        other.resume(self._ranges)
        return other

    @property
    def total(self):
        return total(self._ranges)

    def __iter__(self):
        return iter(self._ranges)

    def __contains__(self, offset):
        return contains(self._ranges, offset)

    def __eq__(self, other):
        return isinstance(other, OffsetSet) and self._ranges == other._ranges
