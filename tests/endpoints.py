"""Endpoints in each phase, for the tests of endpoints and sockets."""

from throughline.endpoint.endpoint import Endpoint
from throughline.host.options import Options
from throughline.offsets.piece import Piece

FIELDS = ("phase", "cause", "mss", "selective", "alarm", "since", "ack_at", "late", "asked", "again", "probe", "over",
          "rest", "spent_at", "spent", "stamp", "marked", "cut")
SENDER_FIELDS = ("room", "una", "nxt", "written", "finished", "edge", "recovery", "resend", "lost", "repeated", "free",
                 "sacked")
RECEIVER_FIELDS = ("room", "nxt", "edge", "end", "recent", "ready", "holds")
CONTROL_FIELDS = ("cwnd", "thresh", "peak", "prior", "calm", "credit", "period")
TRIP_FIELDS = ("srtt", "variance", "rto", "measured")
PHASES = ("syn sent", "syn received", "established", "fin wait 1", "fin wait 2", "close wait", "closing", "last ack",
          "time wait", "ended")
CAUSES = ("done", "refused", "reset", "gave up", "silent", "aborted")


def options(**changed):
    values = {"mss": 100, "room": 1000, "life": 50, "pace": 100000, "tries": 3, "min_rto": 10, "max_rto": 80,
              "ack_delay": 4, "keep_alive": 0, "nagle": False, "control": "reno"}
    return Options(**{**values, **changed})


def state(endpoint):
    """Everything that an endpoint shows."""
    found = {name: getattr(endpoint, name) for name in FIELDS}
    for name, fields in (("sender", SENDER_FIELDS), ("receiver", RECEIVER_FIELDS), ("trip", TRIP_FIELDS),
                         ("control", CONTROL_FIELDS)):
        for field in fields:
            found[f"{name} {field}"] = getattr(getattr(endpoint, name), field, None)
    found["ranges"] = endpoint.receiver.held_ranges()
    return found


def changes(endpoint, call):
    """What a call changes: a dict of the new values. What the call returns is under "returned"."""
    before = state(endpoint)
    returned = call()
    found = {name: value for name, value in state(endpoint).items() if value != before[name]}
    if returned is not None:
        found["returned"] = returned
    return found


def answer(start, **parts):
    """A piece that acknowledges nothing new unless parts says so."""
    return Piece(start, **{"ack": 1, "window": 1000, **parts})


def syn_sent(**changed):
    endpoint = Endpoint(options(**changed), 0)
    endpoint.output(0)
    return endpoint


def syn_received(**changed):
    endpoint = Endpoint.answering(options(**changed), 0, Piece(0, syn=True), mss=100, selective=True)
    endpoint.output(0)
    return endpoint


def established(**changed):
    """At tick 0; its SYN is acknowledged, it has taken the other SYN and acknowledged it."""
    endpoint = syn_sent(**changed)
    endpoint.arrive(Piece(0, syn=True, ack=1, window=1000), 0, agreed=(100, True))
    endpoint.output(0)
    return endpoint


def in_phase(phase, **changed):
    """An endpoint in the phase, at tick 0, with all output taken."""
    if phase == "syn sent":
        return syn_sent(**changed)
    if phase == "syn received":
        return syn_received(**changed)
    endpoint = established(**changed)
    if phase in ("fin wait 1", "fin wait 2", "closing", "time wait"):
        endpoint.finish()
        endpoint.output(0)
    if phase in ("fin wait 2", "time wait"):
        endpoint.arrive(answer(1, ack=2), 0)
    if phase in ("close wait", "closing", "last ack", "time wait"):
        endpoint.arrive(answer(1, fin=True, ack=endpoint.sender.una), 0)
        endpoint.output(0)
    if phase == "last ack":
        endpoint.finish()
        endpoint.output(0)
    if phase == "ended":
        endpoint.abort()
        endpoint.output(0)
    assert endpoint.phase == phase, (endpoint.phase, phase)
    return endpoint


def ended(cause):
    """An endpoint that has ended for the cause, with all output taken."""
    if cause == "done":
        endpoint = in_phase("last ack")
        endpoint.arrive(answer(2, ack=2), 0)
    elif cause == "refused":
        endpoint = in_phase("syn sent")
        endpoint.arrive(Piece(0, reset=True), 0)
    elif cause == "reset":
        endpoint = in_phase("established")
        endpoint.arrive(Piece(1, reset=True), 0)
    elif cause == "gave up":
        endpoint = in_phase("syn sent", tries=1)
        endpoint.tick(1000)
    elif cause == "silent":
        endpoint = in_phase("established", keep_alive=10, tries=1)
        endpoint.tick(10)
        endpoint.tick(2000)
    else:
        endpoint = in_phase("ended")
    endpoint.output(2000)
    assert (endpoint.phase, endpoint.cause) == ("ended", cause), (endpoint.phase, endpoint.cause)
    return endpoint
