"""Cube roots of integers (point 61)."""


def cube_root(number):
    """Returns the greatest integer whose third power is at most the number."""
    low = 0
    high = 1 << (number.bit_length() // 3 + 1)
    # The root is at least low and less than high.
    while high - low > 1:
        middle = (low + high) // 2
        if middle ** 3 <= number:
            low = middle
        else:
            high = middle
    return low
