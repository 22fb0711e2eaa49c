"""The phases of a connection (point 66)."""


def open_phase(*, finished, answered, theirs):
    """Returns the phase of a connection that is open."""
    if not finished:
        return "close wait" if theirs else "established"
    if theirs:
        return "time wait" if answered else "closing"
    return "fin wait 2" if answered else "fin wait 1"


def next_phase(phase, *, opened, finished, answered, theirs):
    """Returns the phase that follows; for a connection that is done, "ended"."""
    if phase == "established" or (phase == "syn received" and opened):
        return open_phase(finished=finished, answered=answered, theirs=theirs)
    if phase in ("fin wait 1", "fin wait 2", "closing"):
        return open_phase(finished=True, answered=answered, theirs=theirs)
    if phase == "close wait" and finished:
        return "ended" if answered else "last ack"
    if phase == "last ack" and answered:
        return "ended"
    return phase
