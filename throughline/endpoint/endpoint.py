"""Endpoints: one end of a connection (part 6)."""

from throughline.endpoint.phases import next_phase
from throughline.offsets.circle import CIRCLE
from throughline.offsets.piece import Piece
from throughline.pace.cubic import Cubic
from throughline.pace.deadlines import is_due
from throughline.pace.reno import Reno
from throughline.pace.round_trip import RoundTrip
from throughline.receiving.receiver import Receiver
from throughline.sending.sender import Sender

# So many pieces are sent at once at most.
MOST_PIECES = 64


class Endpoint:
    """Takes calls, pieces and ticks, and says after each of them which pieces it sends."""

    def __init__(self, options, now):
        self.options = options.fork()
        self.sender = Sender(options.room)
        self.receiver = Receiver(options.room)
        self.trip = RoundTrip(options.min_rto, options.max_rto)
        self.control = _new_control(options.control, options.mss)
        self.phase = "syn sent"
        self.cause = None
        self.mss = options.mss
        self.selective = False
        self.alarm = None
        self.since = now
        self.ack_at = None
        self.late = 0
        self.asked = False
        self.again = False
        self.probe = False
        self.over = False
        self.rest = 0
        self.spent_at = now
        self.spent = 0
        self.stamp = 0
        self.marked = False
        self.cut = False

    @classmethod
    def answering(cls, options, now, piece, *, mss, selective):
        """Returns an endpoint that has taken the SYN of the piece, and nothing else of it."""
        endpoint = cls(options, now)
        endpoint.control = _new_control(options.control, mss)
        endpoint.phase = "syn received"
        endpoint.mss = mss
        endpoint.selective = selective
        if piece.stamp is not None:
            endpoint.stamp = piece.stamp[0]
        endpoint.receiver.arrive(Piece(0, syn=True))
        return endpoint

    @property
    def has_ended(self):
        return self.phase == "ended"

    @property
    def is_open(self):
        return self.phase not in ("syn sent", "syn received", "ended")

    @property
    def needs_answer(self):
        if self.phase in ("time wait", "ended"):
            return False
        return self.sender.una < self.sender.nxt or self.sender.unsent

    @property
    def flight(self):
        return self.sender.flight

    @property
    def timeout(self):
        return self.trip.rto

    @property
    def patience(self):
        return self.options.patience

    def write(self, octets):
        """Takes as many octets as there is room for, and returns how many."""
        return 0 if self.has_ended else self.sender.write(octets)

    def finish(self):
        """Says that nothing more will be written."""
        if self.has_ended or self.sender.finished:
            return
        self.sender.finish()
        self._enter(self._next_phase())

    def read(self, count):
        """Returns the next octets that are ready, at most count."""
        octets = self.receiver.read(count)
        if self.is_open and not self.receiver.end_taken and self.receiver.would_move(self.mss):
            self.ack_at = 0
        return octets

    def abort(self):
        """Ends the connection at once, and tells the other side."""
        if self.has_ended:
            return
        # The other side may know nothing yet of a connection whose SYN it has not answered.
        if self.phase != "syn sent":
            self.over = True
        self._end("aborted")

    def arrive(self, piece, now, *, marked=False, agreed=None):
        """Takes a piece of the other side; marked says whether its packet was marked."""
        if self.has_ended:
            if self.cause != "done" and not piece.reset:
                self.over = True
        elif piece.reset:
            self._end(self._cause_of_reset())
        elif self.phase != "syn sent":
            self._take(piece, now, marked)
        elif piece.syn:
            self.phase = "syn received"
            self.mss, self.selective = agreed
            self._take(piece, now, marked)
            if self.sender.una == 0:
                self.again = True

    def tick(self, now):
        """Looks at what was waited for."""
        if self.phase == "time wait":
            if now >= self.rest:
                self._end("done")
        elif not self.has_ended:
            if is_due(self.alarm, now):
                self._wait_is_over(now)
            elif self._is_quiet(now):
                self.probe = True
                self._begin_wait(now)

    def output(self, now):
        """Returns the pieces that are sent now."""
        pieces = []
        while len(pieces) < MOST_PIECES:
            piece = self._next_output(now)
            if piece is None:
                break
            pieces.append(piece)
        self._wait_for_answer(now)
        return pieces

    def fork(self):
        """Returns an equal endpoint that goes on alone."""
        other = Endpoint(self.options, self.since)
        other.sender = self.sender.fork()
        other.receiver = self.receiver.fork()
        other.trip = self.trip.fork()
        other.control = self.control.fork()
        other.phase = self.phase
        other.cause = self.cause
        other.mss = self.mss
        other.selective = self.selective
        other.alarm = self.alarm
        other.ack_at = self.ack_at
        other.late = self.late
        other.asked = self.asked
        other.again = self.again
        other.probe = self.probe
        other.over = self.over
        other.rest = self.rest
        other.spent_at = self.spent_at
        other.spent = self.spent
        other.stamp = self.stamp
        other.marked = self.marked
        other.cut = self.cut
        return other

    # Phases and waits.

    def _next_phase(self):
        sender = self.sender
        return next_phase(self.phase, opened=sender.una >= 1, finished=sender.finished, answered=sender.all_done,
                          theirs=self.receiver.end_taken)

    def _enter(self, phase):
        if phase == "ended":
            self._end("done")
        else:
            self.phase = phase

    def _end(self, cause):
        self.phase = "ended"
        self.cause = cause

    def _cause_of_reset(self):
        if self.phase == "syn sent":
            return "refused"
        # A reset behind the end of both streams takes nothing away.
        return "done" if self.sender.all_done and self.receiver.end_taken else "reset"

    def _begin_wait(self, now):
        self.alarm = now + self.timeout
        self.since = now

    def _wait_for_answer(self, now):
        if self.needs_answer and self.alarm is None:
            self._begin_wait(now)

    def _is_quiet(self, now):
        keep_alive = self.options.keep_alive
        return self.is_open and keep_alive != 0 and self.alarm is None and self.since + keep_alive <= now

    def _wait_is_over(self, now):
        if self.since + self.patience <= now:
            self._end("gave up" if self.needs_answer else "silent")
            return
        self.trip.back_off()
        self.alarm = now + self.timeout
        if self.flight > 0:
            self.control.time_out(self.mss, flight=self.flight)
            self.sender.time_out()
            self.again = True
        else:
            self.probe = True

    # What arrives.

    def _take(self, piece, now, marked):
        self.since = now
        if piece.ack is not None:
            self._take_acknowledgement(piece, now)
        self._take_marks(piece, now, marked)
        self._take_stream(piece, now)
        before = self.phase
        self._enter(self._next_phase())
        if self.phase == "time wait" and (piece.fin or before != "time wait"):
            self.rest = now + self.options.resting
        self._wait_for_answer(now)

    def _take_acknowledgement(self, piece, now):
        sender = self.sender
        moved, lost = sender.acknowledge(piece.ack, piece.ack + piece.window, piece.ranges if self.selective else [],
                                         empty=piece.size == 0, mss=self.mss)
        if moved > 0:
            self.control.acknowledge(self.mss, now, moved, flight=self.flight,
                                     recovering=sender.recovery is not None)
            if piece.stamp is not None and piece.stamp[1] != 0:
                self.trip.sample((now - piece.stamp[1]) % CIRCLE)
        if lost:
            self.control.lose(self.mss, flight=self.flight)
            self.again = True
        elif moved > 0:
            self.again = False
        if moved > 0 or (self.flight == 0 and not sender.unsent):
            self.alarm = None
            self.probe = False

    def _take_marks(self, piece, now, marked):
        if piece.marked:
            if self.control.mark(self.mss, now, flight=self.flight, length=self.trip.round_ticks):
                self.cut = True
        if marked:
            self.marked = True
        elif piece.cut:
            self.marked = False

    def _take_stream(self, piece, now):
        receiver = self.receiver
        before = receiver.nxt
        receiver.arrive(piece)
        if piece.start <= before and piece.stamp is not None:
            self.stamp = piece.stamp[0]
        if piece.size == 0:
            if piece.start < before:
                self.asked = True
        elif receiver.nxt > before and receiver.holds == 0:
            self._acknowledge_later(piece, now)
        else:
            self.asked = True

    def _acknowledge_later(self, piece, now):
        latest = now + self.options.ack_delay
        if piece.syn or piece.fin or self.late >= 1:
            self.ack_at = 0
        elif self.ack_at is None or self.ack_at > latest:
            self.ack_at = latest
        self.late += 1

    # What is sent.

    def _next_output(self, now):
        if self.has_ended:
            return self._next_reset()
        piece = self._next_piece(now)
        if piece is not None:
            self._add_answers(piece, now)
        return piece

    def _next_reset(self):
        if not self.over:
            return None
        self.over = False
        return Piece(self.sender.nxt, reset=True)

    def _next_piece(self, now):
        sender = self.sender
        if self.again and sender.una < sender.nxt:
            self.again = False
            piece = sender.first_piece(self.mss)
            sender.mark_sent(piece)
            return piece
        if self.asked:
            self.asked = False
            return Piece(sender.nxt)
        piece = sender.next_piece(cwnd=self.control.cwnd, mss=self.mss, allow=self._allowance(now),
                                  nagle=self.options.nagle)
        if piece is not None:
            self._send(piece, now)
            return piece
        if self.probe:
            self.probe = False
            return Piece(sender.una - 1)
        return Piece(sender.nxt) if is_due(self.ack_at, now) else None

    def _allowance(self, now):
        if self.spent_at != now:
            return self.options.pace
        return max(0, self.options.pace - self.spent)

    def _send(self, piece, now):
        was_idle = self.flight == 0
        if piece.start == self.sender.nxt:
            self.spent = len(piece.data) + (self.spent if self.spent_at == now else 0)
            self.spent_at = now
        self.sender.mark_sent(piece)
        if was_idle:
            self._begin_wait(now)

    def _add_answers(self, piece, now):
        if self.phase == "syn sent":
            piece.window = self.options.room
        else:
            piece.ack = self.receiver.nxt
            piece.window = self.receiver.advertise(self.mss)
        if self.selective:
            piece.ranges = self.receiver.held_ranges()
        piece.marked = self.marked
        if self.cut and len(piece.data) > 0:
            piece.cut = True
            self.cut = False
        piece.stamp = (now % CIRCLE, self.stamp)
        self.ack_at = None
        self.late = 0


def _new_control(kind, mss):
    return Cubic(mss) if kind == "cubic" else Reno(mss)
