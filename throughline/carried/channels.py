"""Many channels over one stream (points 109 to 120)."""

from throughline.carried.channel import Channel
from throughline.carried.frames import frame_at, write_frame
from throughline.errors import InvalidAmount, InvalidFrame, InvalidOptions, TooManyChannels, UnknownChannel

GREATEST_SIZE = 65535
GREATEST_CODE = 65535


class Channels:
    """One side: it turns what is written into octets for the other side, and takes those of the other side."""

    MOST_CHANNELS = 100

    def __init__(self, *, first, window, most):
        if not 1 <= window <= GREATEST_SIZE:
            raise InvalidOptions(f"a window of {window}")
        if not 1 <= most <= GREATEST_SIZE:
            raise InvalidOptions(f"{most} octets in a frame at most")
        self.failure = None
        self._window = window
        self._most = most
        # The next channel that each side opens.
        self._next_here = 1 if first else 2
        self._next_there = 2 if first else 1
        self._channels = {}
        # All numbers, in ascending order.
        self._numbers = []
        # All numbers, in the order of turns.
        self._turns = []
        # Opened by the other side, and not accepted.
        self._offered = []
        # Octets of frames that were made and not handed out, and that came and are no whole frame yet.
        self._going = []
        self._coming = []

    def __len__(self):
        return len(self._numbers)

    def __iter__(self):
        return iter(self._numbers)

    def open_channel(self):
        """Opens the next channel, and returns its number."""
        if self._next_here > 2 * Channels.MOST_CHANNELS:
            raise TooManyChannels("the side has opened all of its channels")
        number = self._next_here
        self._next_here += 2
        self._add(Channel(number, announced=False))
        return number

    def accept(self):
        """Returns the first channel that the other side has opened and that was not accepted, or None."""
        if len(self._offered) == 0:
            return None
        return self._offered.pop(0)

    def write(self, channel, octets):
        """Returns how many octets were taken."""
        found = self._known(channel)
        taken = octets[:self._room_of(found)]
        found.queue.extend(list(taken))
        return len(taken)

    def read(self, channel, count):
        """Returns the next octets, at most count."""
        found = self._known(channel)
        if count < 0:
            raise InvalidAmount(f"a count of {count}")
        octets = found.unread[:count]
        del found.unread[:count]
        return octets

    def finish(self, channel):
        """Says that nothing more will be written."""
        found = self._known(channel)
        found.finished = True

    def reset(self, channel, code):
        """Breaks off a channel, for both sides."""
        found = self._known(channel)
        if not 0 <= code <= GREATEST_CODE:
            raise InvalidAmount(f"a code of {code}")
        if found.broken is None:
            found.break_off("here", code)

    def status(self, channel):
        """Returns a dict of what there is to know of a channel."""
        found = self._known(channel)
        return {
            "writable": self._room_of(found),
            "waiting": len(found.queue),
            "readable": len(found.unread),
            "finished": found.finished,
            "at_end": found.broken is None and found.end_came and len(found.unread) == 0,
            "reset": found.broken,
        }

    def take(self, count):
        """Returns the next octets for the other side, at most count."""
        if count < 0:
            raise InvalidAmount(f"a count of {count}")
        if self.failure is not None:
            return []
        while len(self._going) < count:
            frame = self._next_frame()
            if frame is None:
                break
            self._going.extend(write_frame(frame))
        octets = self._going[:count]
        del self._going[:count]
        return octets

    def receive(self, octets):
        """Takes octets of the other side."""
        if self.failure is not None:
            return
        self._coming.extend(list(octets))
        at = 0
        size = self._take_frame(at)
        while size is not None:
            at += size
            size = self._take_frame(at)
        del self._coming[:at]

    def fork(self):
        """Returns an equal side that goes on alone."""
        other = Channels(first=True, window=self._window, most=self._most)
        other.failure = self.failure
        other._next_here = self._next_here
        other._next_there = self._next_there
        other._channels = {number: self._channels[number].fork() for number in self._channels}
        other._numbers = list(self._numbers)
        other._turns = list(self._turns)
        other._offered = list(self._offered)
        other._going = list(self._going)
        other._coming = list(self._coming)
        return other

    def _known(self, number):
        if number not in self._channels:
            raise UnknownChannel(f"no channel {number}")
        return self._channels[number]

    def _add(self, channel):
        self._channels[channel.number] = channel
        self._numbers = sorted([*self._numbers, channel.number])
        self._turns.append(channel.number)

    def _room_of(self, channel):
        """Returns how many octets a write would take."""
        if channel.finished or channel.broken is not None or self.failure is not None:
            return 0
        return self._window - len(channel.queue)

    # Frames that go.

    def _next_frame(self):
        """Makes the next frame, and returns it; or None."""
        channels = [self._channels[number] for number in self._turns]
        for channel in channels:
            if not channel.announced:
                channel.announced = True
                return "open", channel.number
        for channel in channels:
            if channel.has_untold_reset():
                channel.reset_told = True
                return "reset", channel.number, channel.broken[1]
        for channel in channels:
            owed = channel.owed(self._window)
            if owed > 0:
                channel.due += owed
                return "permit", channel.number, owed
        for channel in channels:
            if channel.has_octets_to_send():
                self._move_back(channel.number)
                return "octets", channel.number, channel.take_octets(self._most)
            if channel.has_end_to_send():
                self._move_back(channel.number)
                channel.end_sent = True
                return "end", channel.number
        return None

    def _move_back(self, number):
        """Gives the channel the last place in the order of turns."""
        self._turns.remove(number)
        self._turns.append(number)

    # Frames that come.

    def _take_frame(self, at):
        """Takes the frame that begins at the index, and returns its size; None if it is not whole or wrong."""
        try:
            found = frame_at(self._coming, at)
        except InvalidFrame:
            self.failure = "unknown kind"
            return None
        if found is None:
            return None
        frame, size = found
        self.failure = self._failure_of(frame)
        if self.failure is not None:
            return None
        self._apply(frame)
        return size

    def _failure_of(self, frame):
        """Returns what is wrong with the frame, or None."""
        word, number = frame[0], frame[1]
        if word == "open":
            is_next = number == self._next_there and number <= 2 * Channels.MOST_CHANNELS
            return None if is_next else "channel out of order"
        if number not in self._channels:
            return "no such channel"
        channel = self._channels[number]
        if channel.broken is None:
            return _failure_on(channel, frame)
        return "after the end" if channel.broken[0] == "there" else None

    def _apply(self, frame):
        """Does what a frame that is right says."""
        word, number = frame[0], frame[1]
        if word == "open":
            self._next_there += 2
            self._offered.append(number)
            self._add(Channel(number, announced=True))
            return
        channel = self._channels[number]
        if channel.broken is not None:
            return
        if word == "octets":
            channel.unread.extend(frame[2])
            channel.due -= len(frame[2])
        elif word == "permit":
            channel.credit += frame[2]
        elif word == "end":
            channel.end_came = True
        else:
            channel.break_off("there", frame[2])


def _failure_on(channel, frame):
    """Returns what is wrong with a frame for a channel that is not reset, or None."""
    word = frame[0]
    if (word == "octets" and len(frame[2]) == 0) or (word == "permit" and frame[2] == 0):
        return "empty frame"
    if word in ("octets", "end") and channel.end_came:
        return "after the end"
    if word == "octets" and len(frame[2]) > channel.due:
        return "beyond the window"
    return None
