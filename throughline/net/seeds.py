"""Numbers that are drawn from a seed (point 103)."""

CIRCLE = 4294967296


def next_seed(seed):
    """Returns the next seed."""
    return (1664525 * seed + 1013904223) % CIRCLE


def draw(seed, below):
    """Returns the new seed and the number that is drawn."""
    seed = next_seed(seed)
    return seed, seed * below // CIRCLE
