"""Sets of offsets, given as lists of ranges (points 22 to 26)."""


def ranges_of(offsets):
    """Returns the ranges of the set with these offsets, which are ascending."""
    ranges = []
    for offset in offsets:
        if len(ranges) > 0 and ranges[-1][1] == offset:
            ranges[-1] = (ranges[-1][0], offset + 1)
        else:
            ranges.append((offset, offset + 1))
    return ranges


def add_range(ranges, start, stop):
    """Returns the ranges of the set with the offsets from start to stop - 1 added."""
    if stop <= start:
        return list(ranges)
    # Ranges that only touch the new one are joined with it, too: at least one free offset lies between two ranges.
    first = _first_behind(ranges, start - 1)
    rest = _first_behind(ranges, stop)
    if rest < len(ranges) and ranges[rest][0] <= stop:
        rest += 1
    joined = ranges[first:rest]
    low = min([start] + [pair[0] for pair in joined])
    high = max([stop] + [pair[1] for pair in joined])
    return [*ranges[:first], (low, high), *ranges[rest:]]


def cut_below(ranges, limit):
    """Returns the ranges of the set without the offsets below the limit."""
    kept = ranges[_first_behind(ranges, limit):]
    if len(kept) > 0 and kept[0][0] < limit:
        kept[0] = (limit, kept[0][1])
    return kept


def contains(ranges, offset):
    """Returns whether the offset is in the set."""
    at = _first_behind(ranges, offset)
    return at < len(ranges) and ranges[at][0] <= offset


def count_inside(ranges, start, stop):
    """Returns how many offsets from start to stop - 1 are in the set."""
    if stop <= start:
        return 0
    return total(cut_below(ranges, start)) - total(cut_below(ranges, stop))


def total(ranges):
    """Returns how many offsets are in the set."""
    return sum([stop - start for start, stop in ranges])


def first_free(ranges, start):
    """Returns the least offset from start on that is not in the set."""
    at = _first_behind(ranges, start)
    if at < len(ranges) and ranges[at][0] <= start:
        return ranges[at][1]
    return start


def free_stop(ranges, start, stop):
    """Returns the least offset of the set behind start, but at most stop."""
    at = _first_behind(ranges, start + 1)
    if at == len(ranges):
        return stop
    return min(stop, max(start + 1, ranges[at][0]))


def loss_edge(ranges, amount):
    """Returns the greatest offset of the set such that more than that amount is at least it, or 0."""
    left = amount
    for start, stop in reversed(ranges):
        if stop - start > left:
            return stop - 1 - left
        left -= stop - start
    return 0


def _first_behind(ranges, offset):
    """Returns the position of the first range that contains the offset or lies behind it."""
    low = 0
    high = len(ranges)
    while low < high:
        middle = (low + high) // 2
        if ranges[middle][1] > offset:
            high = middle
        else:
            low = middle + 1
    return low
