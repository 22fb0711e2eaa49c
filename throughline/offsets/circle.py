"""Offsets and their wire numbers (points 19 to 21)."""

CIRCLE = 4294967296
HALF = 2147483648


def wrap(first, offset):
    """Returns the wire number of the offset."""
    return (first + offset) % CIRCLE


def unwrap(first, near, number):
    """Returns the offset that the wire number is read as near another offset, or None."""
    lowest = near - HALF
    offset = lowest + (number - wrap(first, lowest)) % CIRCLE
    return offset if offset >= 0 else None
