"""Codes: the parts of a host as lists of integers (points 137 and 138)."""

from throughline.errors import InvalidText
from throughline.pace.cubic import Cubic
from throughline.pace.reno import Reno
from throughline.pace.round_trip import RoundTrip
from throughline.receiving.receiver import Receiver
from throughline.sending.sender import Sender


class CodeReader:
    """Reads numbers, one after another; what is refused is not read."""

    def __init__(self, numbers, line):
        self.line = line
        self._numbers = list(numbers)
        # How many numbers were read.
        self._done = 0

    def number(self):
        """Returns the next number."""
        return self._read(1)[0]

    def choice(self, count):
        """Returns the next number, which is less than count."""
        if self._next_number() >= count:
            raise InvalidText(self.line)
        return self.number()

    def flag(self):
        """Returns the next number as False or True."""
        return self.choice(2) == 1

    def optional(self):
        """Returns the next number that may be None."""
        is_known = self._next_number()
        if is_known > 1:
            raise InvalidText(self.line)
        numbers = self._read(1 + is_known)
        return numbers[1] if is_known == 1 else None

    def row(self):
        """Returns the next list of numbers."""
        return self._read(1 + self._next_number())[1:]

    def pairs(self):
        """Returns the next list of pairs."""
        numbers = self._read(1 + 2 * self._next_number())
        return list(zip(numbers[1::2], numbers[2::2]))

    def finish(self):
        """Raises InvalidText if a number is left."""
        if self._done < len(self._numbers):
            raise InvalidText(self.line)

    def fork(self):
        """Returns a reader of the same numbers that goes on alone."""
        other = CodeReader([], self.line)
        # The numbers never change, so that both can have the same list.
        other._numbers = self._numbers
        other._done = self._done
        return other

    def follow(self, other):
        """Goes on where a fork has come to."""
        self._done = other._done

    def _next_number(self):
        """Returns the next number, and does not read it."""
        if self._done == len(self._numbers):
            raise InvalidText(self.line)
        return self._numbers[self._done]

    def _read(self, many):
        start = self._done
        if many > len(self._numbers) - start:
            raise InvalidText(self.line)
        self._done = start + many
        return self._numbers[start:start + many]


def optional_code(number):
    """Returns the code of a number that may be None."""
    return [0] if number is None else [1, number]


def row_code(numbers):
    """Returns the code of a list of numbers."""
    return [len(numbers), *numbers]


def pairs_code(pairs):
    """Returns the code of a list of pairs."""
    code = [len(pairs)]
    for first, second in pairs:
        code.append(first)
        code.append(second)
    return code


def write_sender(sender):
    """Returns the code of the sender."""
    return [sender.una, sender.nxt, sender.written, int(sender.finished), sender.edge,
            *optional_code(sender.recovery), sender.resend, sender.lost, sender.repeated,
            *row_code(sender.queued()), *pairs_code(sender.sacked)]


def read_sender(reader, room):
    """Returns the sender that the reader reads next."""
    ahead = reader.fork()
    sender = Sender(room)
    sender.una = ahead.number()
    sender.nxt = ahead.number()
    sender.written = ahead.number()
    sender.finished = ahead.flag()
    sender.edge = ahead.number()
    sender.recovery = ahead.optional()
    sender.resend = ahead.number()
    sender.lost = ahead.number()
    sender.repeated = ahead.number()
    queue = ahead.row()
    sender.resume(queue, ahead.pairs())
    reader.follow(ahead)
    return sender


def write_receiver(receiver):
    """Returns the code of the receiver."""
    return [receiver.nxt, receiver.edge, *optional_code(receiver.end), receiver.recent,
            *row_code(receiver.ready_octets()), *pairs_code(receiver.held_octets())]


def read_receiver(reader, room):
    """Returns the receiver that the reader reads next."""
    ahead = reader.fork()
    receiver = Receiver(room)
    receiver.nxt = ahead.number()
    receiver.edge = ahead.number()
    receiver.end = ahead.optional()
    receiver.recent = ahead.number()
    ready = ahead.row()
    held = ahead.pairs()
    if any([held[at][0] >= held[at + 1][0] for at in range(len(held) - 1)]):
        raise InvalidText(reader.line)
    receiver.resume(ready, held)
    reader.follow(ahead)
    return receiver


def write_trip(trip):
    """Returns the code of the round trip."""
    return [trip.srtt, trip.variance, trip.rto, int(trip.measured)]


def read_trip(reader, options):
    """Returns the round trip that the reader reads next."""
    ahead = reader.fork()
    trip = RoundTrip(options.min_rto, options.max_rto)
    trip.srtt = ahead.number()
    trip.variance = ahead.number()
    trip.rto = ahead.number()
    trip.measured = ahead.flag()
    reader.follow(ahead)
    return trip


def write_control(control):
    """Returns the code of the control."""
    code = [control.cwnd, control.thresh, control.peak, control.prior, control.calm]
    if not isinstance(control, Cubic):
        return [*code, control.credit]
    return [*code, 0] if control.period is None else [*code, 1, *control.period]


def read_control(reader, options):
    """Returns the control that the reader reads next."""
    ahead = reader.fork()
    is_cubic = options.control == "cubic"
    control = Cubic(options.mss) if is_cubic else Reno(options.mss)
    control.cwnd = ahead.number()
    control.thresh = ahead.number()
    control.peak = ahead.number()
    control.prior = ahead.number()
    control.calm = ahead.number()
    if not is_cubic:
        control.credit = ahead.number()
    elif ahead.flag():
        start, origin, turning = ahead.number(), ahead.number(), ahead.number()
        friendly, credit = ahead.number(), ahead.number()
        control.period = (start, origin, turning, friendly, credit)
    reader.follow(ahead)
    return control
