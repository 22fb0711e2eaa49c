"""Sides of channels: the frames that come, and what a failed side still does (points 116 to 118)."""

import unittest

from tests.channels import octets_of, opened, said, side, tell
from tests.frozen import frozen
from throughline.errors import InvalidAmount, TooManyChannels, UnknownChannel

# Kinds that there are not, as the first of three octets.
UNKNOWN = [[0, 0, 1], [6, 0, 1], [7, 255, 255], [255, 0, 0]]


def reset_there(number=1):
    given = opened(number)
    tell(given, ("reset", number, 4))
    return given


def reset_here(number=1):
    given = opened(number, credit=3)
    given.reset(number, 4)
    return given


def ended(number=1):
    given = opened(number)
    tell(given, ("octets", number, [1, 2]), ("end", number))
    return given


class RightFramesTest(unittest.TestCase):
    def test_open(self):
        given = side(True)
        tell(given, ("open", 2), ("open", 4))
        self.assertEqual((given.failure, list(given), given.accept()), (None, [2, 4], 2))
        given = side(False)
        tell(given, ("open", 1), ("open", 3))
        self.assertEqual((given.failure, list(given), given.accept()), (None, [1, 3], 1))

    def test_octets(self):
        given = opened(window=10)
        tell(given, ("octets", 1, [5, 6]), ("octets", 1, [7]))
        self.assertEqual((given.status(1)["readable"], given.read(1, 9)), (3, [5, 6, 7]))

    def test_due_decreases_by_the_octets(self):
        for first in range(1, 11):
            given = opened(window=10)
            tell(given, ("octets", 1, [5] * first))
            rest = given.fork()
            if first < 10:
                tell(rest, ("octets", 1, [6] * (10 - first)))
                self.assertIsNone(rest.failure)
            tell(given, ("octets", 1, [6] * (11 - first)))
            self.assertEqual(given.failure, "beyond the window")

    def test_permit(self):
        given = opened()
        given.write(1, [1, 2, 3])
        tell(given, ("permit", 1, 1))
        self.assertEqual(said(given), [("octets", 1, [1])])
        tell(given, ("permit", 1, 65535), ("permit", 1, 65535))
        self.assertEqual(said(given), [("octets", 1, [2, 3])])
        self.assertIsNone(given.failure)

    def test_end(self):
        given = ended()
        self.assertEqual((given.failure, given.status(1)["at_end"]), (None, False))
        given.read(1, 2)
        self.assertIs(given.status(1)["at_end"], True)

    def test_reset(self):
        given = opened()
        given.write(1, [1, 2])
        tell(given, ("octets", 1, [3]), ("reset", 1, 65535))
        self.assertEqual(given.status(1), {"writable": 0, "waiting": 0, "readable": 0, "finished": False,
                                           "at_end": False, "reset": ("there", 65535)})
        self.assertEqual((given.failure, said(given)), (None, []))

    def test_permits_and_resets_behind_the_end(self):
        given = ended()
        given.write(1, [8, 9])
        tell(given, ("permit", 1, 1))
        self.assertEqual(said(given), [("octets", 1, [8])])
        tell(given, ("reset", 1, 3))
        self.assertEqual((given.failure, given.status(1)["reset"]), (None, ("there", 3)))

    def test_a_channel_that_was_opened_here_needs_not_be_announced(self):
        given = side(True)
        given.open_channel()
        tell(given, ("permit", 1, 3), ("end", 1))
        self.assertEqual((given.failure, given.status(1)["at_end"]), (None, True))


class CutsTest(unittest.TestCase):
    FRAMES = [("open", 2), ("permit", 2, 259), ("octets", 1, [1, 2, 3]), ("octets", 1, [4]), ("end", 1), ("open", 4),
              ("reset", 4, 258)]

    def test_each_frame_cut_at_every_place(self):
        for frame in self.FRAMES + [("permit", 1, 7), ("reset", 1, 9)]:
            octets = octets_of(frame)
            whole = opened()
            if frame[1] == 2 and frame[0] != "open":
                tell(whole, ("open", 2))
            if frame[1] == 4:
                tell(whole, ("open", 2))
                if frame[0] != "open":
                    tell(whole, ("open", 4))
            cut = whole.fork()
            whole.receive(octets)
            for at in range(len(octets)):
                part, before = cut.fork(), cut.fork()
                part.receive(octets[:at])
                # Without its last octet, a frame changes nothing that can be seen.
                self.assertEqual([part.status(number) for number in part],
                                 [before.status(number) for number in before])
                self.assertEqual((part.failure, list(part)), (None, list(before)))
                part.receive([])
                part.receive(octets[at:])
                self.assertEqual(frozen(part), frozen(whole))

    def test_a_row_of_frames_in_two_and_three_parts(self):
        octets = octets_of(*self.FRAMES)
        whole = opened()
        whole.receive(octets)
        self.assertIsNone(whole.failure)
        for first in range(len(octets) + 1):
            for second in range(first, len(octets) + 1):
                given = opened()
                for start, stop in ((0, first), (first, second), (second, len(octets))):
                    given.receive(octets[start:stop])
                self.assertEqual(frozen(given), frozen(whole))

    def test_octet_by_octet(self):
        octets = octets_of(*self.FRAMES)
        whole, given = opened(), opened()
        whole.receive(octets)
        for octet in octets:
            given.receive([octet])
        self.assertEqual(frozen(given), frozen(whole))

    def test_octets_are_read_once_their_frame_is_whole(self):
        given = opened()
        octets = octets_of(("octets", 1, [7, 8]))
        given.receive(octets[:-1])
        self.assertEqual(given.read(1, 9), [])
        given.receive(octets[-1:])
        self.assertEqual(given.read(1, 9), [7, 8])


class FailuresTest(unittest.TestCase):
    def check(self, given, failure, *frames):
        """The last frame is wrong, the others are not."""
        tell(given, *frames[:-1])
        self.assertIsNone(given.failure)
        tell(given, frames[-1])
        with self.subTest(frames):
            self.assertEqual(given.failure, failure)

    def test_unknown_kinds(self):
        for octets in UNKNOWN:
            given = opened()
            given.receive(octets[:2])
            self.assertIsNone(given.failure)
            # The kind is looked at with the third octet, and no later.
            given.receive(octets[2:])
            self.assertEqual(given.failure, "unknown kind")

    def test_a_known_kind_is_not_looked_at_further_before_it_is_whole(self):
        given = opened()
        given.receive([2, 0, 9, 0])
        self.assertIsNone(given.failure)
        given.receive([1])
        self.assertIsNone(given.failure)
        given.receive([5])
        self.assertEqual(given.failure, "no such channel")
        given = opened()
        given.receive([3, 0, 1, 0])
        self.assertIsNone(given.failure)
        given.receive([0])
        self.assertEqual(given.failure, "empty frame")

    def test_channels_out_of_order(self):
        for first, wrong in ((True, (0, 1, 3, 4, 6, 65535)), (False, (0, 2, 3, 4, 5, 65535))):
            for number in wrong:
                self.check(side(first), "channel out of order", ("open", number))
        for number in (1, 2, 3, 5, 6):
            self.check(opened(), "channel out of order", ("open", 2), ("open", number))

    def test_the_hundred_and_first_channel(self):
        for first in (True, False):
            given = side(first)
            numbers = list(range(2 if first else 1, 201, 2))
            self.assertEqual(len(numbers), 100)
            tell(given, *[("open", number) for number in numbers])
            self.check(given, "channel out of order", ("open", numbers[-1] + 2))
            self.assertEqual(list(given), numbers)

    def test_no_such_channels(self):
        for frame in (("octets", 3, [1]), ("octets", 3, []), ("permit", 3, 0), ("permit", 3, 5), ("end", 3),
                      ("reset", 3, 1), ("reset", 0, 1), ("end", 2), ("end", 65535)):
            self.check(opened(), "no such channel", frame)

    def test_frames_behind_a_reset_there(self):
        # Each other reason that would apply here comes later.
        for frame in (("octets", 1, [1]), ("octets", 1, []), ("octets", 1, [1] * 11), ("permit", 1, 0),
                      ("permit", 1, 5), ("end", 1), ("reset", 1, 4)):
            self.check(reset_there(), "after the end", frame)
        self.check(reset_there(), None, ("open", 2))

    def test_empty_frames(self):
        for frame in (("octets", 1, []), ("permit", 1, 0)):
            self.check(opened(), "empty frame", frame)
            # Ahead of "after the end".
            self.check(ended(), "empty frame", frame)
        self.check(side(True), "empty frame", ("open", 2), ("octets", 2, []))

    def test_frames_behind_the_end(self):
        for frame in (("octets", 1, [1]), ("end", 1)):
            self.check(ended(), "after the end", frame)
        # Ahead of "beyond the window".
        self.check(ended(), "after the end", ("octets", 1, [1] * 11))

    def test_octets_beyond_the_window(self):
        self.check(opened(window=10), "beyond the window", ("octets", 1, [1] * 11))
        self.check(opened(window=10), None, ("octets", 1, [1] * 10))
        self.check(opened(window=10), "beyond the window", ("octets", 1, [1] * 10), ("octets", 1, [1]))
        given = opened(window=10)
        tell(given, ("octets", 1, [1] * 10))
        given.read(1, 10)
        # What is owed counts only once it is permitted.
        self.check(given.fork(), "beyond the window", ("octets", 1, [1]))
        self.assertEqual(said(given), [("permit", 1, 10)])
        self.check(given, None, ("octets", 1, [1] * 10))

    def test_nothing_is_due_before_the_first_permit(self):
        given = side(True)
        self.check(given, "beyond the window", ("open", 2), ("octets", 2, [1]))

    def test_frames_for_a_channel_that_was_reset_here(self):
        for told in (False, True):
            for frames in ([("octets", 1, [1])], [("octets", 1, [])], [("octets", 1, [1] * 11)], [("permit", 1, 0)],
                           [("permit", 1, 5)], [("end", 1)], [("end", 1), ("end", 1), ("octets", 1, [1])],
                           [("reset", 1, 9)], [("reset", 1, 9), ("octets", 1, [1]), ("reset", 1, 9)]):
                given = reset_here()
                if told:
                    self.assertEqual(said(given), [("reset", 1, 4)])
                before = frozen(given)
                tell(given, *frames)
                self.assertEqual(frozen(given), before)
                self.assertEqual(given.status(1)["reset"], ("here", 4))
                self.assertEqual(said(given), [] if told else [("reset", 1, 4)])

    def test_other_frames_are_still_looked_at_behind_a_reset_here(self):
        given = reset_here()
        given.receive([9, 0, 1])
        self.assertEqual(given.failure, "unknown kind")
        self.check(reset_here(), "channel out of order", ("open", 1))
        self.check(reset_here(), "no such channel", ("end", 3))
        self.check(reset_here(), None, ("open", 2))


class FailedTest(unittest.TestCase):
    def failed(self):
        """A side that fails with something in each of its parts."""
        given = opened(credit=9, most=2)
        tell(given, ("open", 2), ("octets", 1, [5, 6, 7]), ("permit", 2, 3))
        given.write(1, [1, 2, 3])
        given.write(2, [4])
        given.take(2)
        tell(given, ("open", 9))
        self.assertEqual(given.failure, "channel out of order")
        return given

    def test_what_stands_behind_a_wrong_frame(self):
        for wrong in (("open", 9), ("end", 9), ("octets", 1, [])):
            given = opened()
            tell(given, ("octets", 1, [1]), wrong, ("octets", 1, [2]), ("open", 2), ("end", 1), ("reset", 1, 3))
            self.assertEqual((list(given), given.read(1, 9), given.status(1)["reset"]), ([1], [1], None))
            self.assertIs(given.status(1)["at_end"], False)

    def test_what_stands_behind_an_unknown_kind(self):
        given = opened()
        given.receive([*octets_of(("octets", 1, [1])), 8, 0, 1, *octets_of(("octets", 1, [2]), ("open", 2))])
        self.assertEqual((given.failure, list(given), given.read(1, 9)), ("unknown kind", [1], [1]))

    def test_what_comes_later(self):
        given = self.failed()
        before = frozen(given)
        tell(given, ("octets", 1, [9]), ("open", 4), ("reset", 1, 5))
        given.receive([])
        given.receive([7, 7, 7])
        self.assertEqual(frozen(given), before)

    def test_nothing_more_is_handed_out(self):
        given = self.failed()
        for count in (0, 1, 100):
            self.assertEqual(given.take(count), [])
        given.reset(2, 1)
        given.finish(1)
        given.open_channel()
        self.assertEqual(given.take(100), [])
        self.assertRaises(InvalidAmount, given.take, -1)

    def test_a_write_takes_nothing(self):
        given = self.failed()
        self.assertEqual((given.write(1, [1]), given.write(2, [1]), given.status(1)["writable"]), (0, 0, 0))
        self.assertEqual(given.status(1)["waiting"], 3)
        self.assertRaises(UnknownChannel, given.write, 9, [1])

    def test_everything_else_goes_on(self):
        given = self.failed()
        self.assertEqual((list(given), len(given)), ([1, 2], 2))
        self.assertEqual(given.open_channel(), 3)
        self.assertEqual((given.accept(), given.accept()), (2, None))
        self.assertEqual((given.read(1, 2), given.read(1, 2)), ([5, 6], [7]))
        given.finish(1)
        given.reset(2, 8)
        self.assertEqual((given.status(1)["finished"], given.status(2)["reset"]), (True, ("here", 8)))
        self.assertEqual(given.status(2)["waiting"], 0)
        self.assertRaises(InvalidAmount, given.read, 1, -1)
        self.assertRaises(InvalidAmount, given.reset, 1, 65536)
        for _ in range(98):
            given.open_channel()
        self.assertRaises(TooManyChannels, given.open_channel)
        self.assertEqual(frozen(given.fork()), frozen(given))

    def test_the_first_failure_stays(self):
        given = opened()
        given.receive([9, 0, 1])
        tell(given, ("end", 7))
        self.assertEqual(given.failure, "unknown kind")


if __name__ == "__main__":
    unittest.main()
