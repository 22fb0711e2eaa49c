"""Deadlines: a tick, or None if it does not run (point 53)."""


def is_due(deadline, now):
    """Returns whether the deadline is due at the present tick."""
    return deadline is not None and deadline <= now


def earliest(deadlines):
    """Returns the earliest of the deadlines that run, or None."""
    return min([deadline for deadline in deadlines if deadline is not None], default=None)
