"""Sides of channels: their calls and the frames that go (points 109 to 115, 118 and 119)."""

import unittest

from tests.channels import exchange, frames_of, octets_of, opened, said, side, tell
from tests.frozen import frozen
from throughline.carried.channels import Channels
from throughline.errors import InvalidAmount, InvalidOptions, TooManyChannels, UnknownChannel


class SidesTest(unittest.TestCase):
    def test_windows_and_most_at_their_bounds(self):
        for value in (1, 2, 65534, 65535):
            side(window=value)
            side(most=value)
        for value in (-1, 0, 65536, 100000):
            self.assertRaises(InvalidOptions, side, window=value)
            self.assertRaises(InvalidOptions, side, most=value)

    def test_a_new_side(self):
        for first in (True, False):
            given = side(first)
            self.assertIsNone(given.failure)
            self.assertEqual((list(given), len(given), given.take(10), given.accept()), ([], 0, [], None))

    def test_the_greatest_window(self):
        given = opened(window=65535, most=65535)
        tell(given, ("permit", 1, 65535))
        self.assertEqual(given.write(1, [5] * 70000), 65535)
        self.assertEqual(given.write(1, [5]), 0)
        self.assertEqual(said(given), [("octets", 1, [5] * 65535)])

    def test_the_least_window(self):
        one, other = side(True, 1, 1), side(False, 1, 1)
        one.open_channel()
        for octet in range(5):
            self.assertEqual(one.write(1, [octet, 9]), 1)
            exchange(one, other)
            self.assertEqual(other.read(1, 5), [octet])

    def test_the_numbers_that_each_side_opens(self):
        one, other = side(True), side(False)
        self.assertEqual([one.open_channel() for _ in range(4)], [1, 3, 5, 7])
        self.assertEqual([other.open_channel() for _ in range(4)], [2, 4, 6, 8])
        exchange(one, other)
        self.assertEqual((list(one), len(one)), ([1, 2, 3, 4, 5, 6, 7, 8], 8))
        self.assertEqual((list(other), len(other)), ([1, 2, 3, 4, 5, 6, 7, 8], 8))
        self.assertEqual((one.open_channel(), other.open_channel()), (9, 10))

    def test_the_hundredth_channel_and_the_next_one(self):
        for first in (True, False):
            given = side(first)
            numbers = [given.open_channel() for _ in range(100)]
            self.assertEqual(numbers, list(range(1 if first else 2, 201, 2)))
            before = frozen(given)
            self.assertRaises(TooManyChannels, given.open_channel)
            self.assertEqual(frozen(given), before)
            # Those of the other side are counted by themselves.
            tell(given, *[("open", number) for number in range(2 if first else 1, 201, 2)])
            self.assertIsNone(given.failure)
            self.assertEqual(list(given), list(range(1, 201)))
            self.assertRaises(TooManyChannels, given.open_channel)

    def test_a_hundred_channels_of_the_other_side_are_no_bound_here(self):
        given = side(False)
        tell(given, *[("open", number) for number in range(1, 201, 2)])
        self.assertEqual(given.open_channel(), 2)

    def test_the_numbers_are_ascending(self):
        given = side(False)
        given.open_channel()
        given.open_channel()
        tell(given, ("open", 1), ("open", 3), ("open", 5))
        self.assertEqual(list(given), [1, 2, 3, 4, 5])

    def test_accept(self):
        given = side(True)
        given.open_channel()
        self.assertIsNone(given.accept())
        tell(given, ("open", 2), ("open", 4), ("open", 6))
        self.assertEqual([given.accept(), given.accept()], [2, 4])
        tell(given, ("open", 8))
        self.assertEqual([given.accept(), given.accept(), given.accept()], [6, 8, None])

    def test_a_channel_is_used_before_it_is_accepted(self):
        given = side(True)
        tell(given, ("open", 2), ("permit", 2, 10))
        self.assertEqual(given.write(2, [1, 2]), 2)
        self.assertEqual(said(given), [("permit", 2, 10), ("octets", 2, [1, 2])])
        given.finish(2)
        given.reset(2, 5)
        self.assertEqual(given.accept(), 2)


class FramesThatGoTest(unittest.TestCase):
    def test_open_comes_first(self):
        given = opened(credit=9)
        given.write(1, [1])
        tell(given, ("open", 2))
        given.reset(2, 7)
        given.open_channel()
        given.open_channel()
        self.assertEqual(said(given), [("open", 3), ("open", 5), ("reset", 2, 7), ("permit", 3, 10),
                                       ("permit", 5, 10), ("octets", 1, [1])])
        self.assertEqual(said(given), [])

    def test_a_reset_comes_ahead_of_permits(self):
        given = side(True)
        tell(given, ("open", 2), ("open", 4), ("open", 6))
        given.reset(6, 1)
        given.reset(4, 65535)
        self.assertEqual(said(given), [("reset", 4, 65535), ("reset", 6, 1), ("permit", 2, 10)])

    def test_a_channel_that_is_reset_before_it_is_announced(self):
        given = side(True)
        given.open_channel()
        given.write(1, [1, 2])
        given.finish(1)
        given.reset(1, 3)
        self.assertEqual(said(given), [("open", 1), ("reset", 1, 3)])

    def test_permits_come_ahead_of_octets(self):
        given = opened(credit=9)
        given.write(1, [1, 2])
        tell(given, ("open", 2))
        self.assertEqual(said(given), [("permit", 2, 10), ("octets", 1, [1, 2])])

    def test_a_channel_that_was_opened_there_is_never_announced(self):
        given = side(True)
        tell(given, ("open", 2))
        self.assertEqual(said(given), [("permit", 2, 10)])
        self.assertEqual(said(given), [])

    def test_owing_half_of_the_window_one_less_and_one_more(self):
        for window, count, owed in [
            (10, 4, 0), (10, 5, 5), (10, 6, 6), (11, 5, 0), (11, 6, 6), (11, 7, 7), (1, 1, 1), (2, 1, 1), (3, 1, 0),
            (3, 2, 2), (65535, 32767, 0), (65535, 32768, 32768),
        ]:
            with self.subTest(window=window, count=count):
                given = opened(window=window)
                tell(given, ("octets", 1, [7] * count))
                # While they are ready, they are not owed.
                self.assertEqual(said(given), [])
                self.assertEqual(len(given.read(1, count)), count)
                self.assertEqual(said(given), [("permit", 1, owed)] if owed else [])
                self.assertEqual(said(given), [])

    def test_what_is_ready_is_not_owed(self):
        given = opened(window=10)
        tell(given, ("octets", 1, [1] * 9))
        given.read(1, 4)
        self.assertEqual(said(given), [])
        given.read(1, 1)
        self.assertEqual(said(given), [("permit", 1, 5)])
        given.read(1, 4)
        self.assertEqual(said(given), [])
        # 5 were permitted, 1 is left of before: 4 are owed, and one more once it has come and was read.
        tell(given, ("octets", 1, [2]))
        given.read(1, 1)
        self.assertEqual(said(given), [("permit", 1, 5)])

    def test_no_permits_behind_the_end_or_a_reset(self):
        for frame in (("end", 1), ("reset", 1, 4)):
            given = opened()
            tell(given, ("octets", 1, [1] * 10), frame)
            given.read(1, 10)
            self.assertEqual(said(given), [])
        given = side(True)
        tell(given, ("open", 2), ("end", 2))
        self.assertEqual(said(given), [])

    def test_credit_queue_and_most(self):
        for queue, credit, most, frames in [
            (0, 5, 4, []), (3, 0, 4, []), (3, 2, 4, [2]), (3, 3, 4, [3]), (3, 4, 4, [3]), (4, 9, 4, [4]), (5, 9, 4, [4, 1]),
            (9, 4, 4, [4]), (9, 5, 4, [4, 1]), (9, 3, 4, [3]), (8, 8, 4, [4, 4]), (3, 3, 1, [1, 1, 1]), (9, 9, 65535, [9]),
        ]:
            with self.subTest(queue=queue, credit=credit, most=most):
                given = opened(credit=credit, most=most)
                octets = list(range(queue))
                self.assertEqual(given.write(1, octets), queue)
                found = said(given)
                self.assertEqual([frame[:2] for frame in found], [("octets", 1)] * len(frames))
                self.assertEqual([len(frame[2]) for frame in found], frames)
                self.assertEqual([octet for frame in found for octet in frame[2]], octets[:sum(frames)])
                self.assertEqual(given.status(1)["waiting"], queue - sum(frames))

    def test_credits_add_up(self):
        given = opened(credit=2)
        given.write(1, [1, 2, 3, 4, 5, 6])
        self.assertEqual(said(given), [("octets", 1, [1, 2])])
        tell(given, ("permit", 1, 1), ("permit", 1, 2))
        self.assertEqual(said(given), [("octets", 1, [3, 4, 5])])
        tell(given, ("permit", 1, 5))
        self.assertEqual(said(given), [("octets", 1, [6])])
        given.write(1, [7, 8, 9, 10, 11])
        self.assertEqual(said(given), [("octets", 1, [7, 8, 9, 10])])

    def test_an_end_behind_the_last_octets(self):
        given = opened(credit=3)
        given.write(1, [1, 2, 3, 4])
        given.finish(1)
        self.assertEqual(said(given), [("octets", 1, [1, 2, 3])])
        tell(given, ("permit", 1, 1))
        self.assertEqual(said(given), [("octets", 1, [4]), ("end", 1)])
        self.assertEqual(said(given), [])
        given.finish(1)
        self.assertEqual(said(given), [])

    def test_an_end_needs_no_credit(self):
        given = opened(credit=0)
        given.finish(1)
        self.assertEqual(said(given), [("end", 1)])

    def test_the_turns_of_three_channels(self):
        given = side(True, window=20, most=4)
        for number in (1, 3, 5):
            self.assertEqual(given.open_channel(), number)
            given.write(number, [number] * 9)
            tell(given, ("permit", number, 20))
        given.finish(3)
        found = said(given)[6:]
        self.assertEqual([(frame[:2], len(frame[2]) if len(frame) == 3 else None) for frame in found], [
            (("octets", 1), 4), (("octets", 3), 4), (("octets", 5), 4), (("octets", 1), 4), (("octets", 3), 4),
            (("octets", 5), 4), (("octets", 1), 1), (("octets", 3), 1), (("octets", 5), 1), (("end", 3), None)])

    def test_the_order_of_turns(self):
        given = side(True, window=20, most=1)
        self.assertEqual(given.open_channel(), 1)
        tell(given, ("open", 2))
        self.assertEqual(given.open_channel(), 3)
        tell(given, ("open", 4))
        self.assertEqual(said(given), [("open", 1), ("open", 3)] + [("permit", number, 20) for number in (1, 2, 3, 4)])
        for number in (4, 3, 2, 1):
            tell(given, ("permit", number, 9))
        # What was sent last comes last; a channel without anything to send keeps its place.
        given.write(3, [3])
        given.write(1, [1, 1])
        self.assertEqual([frame[1] for frame in said(given)], [1, 3, 1])
        for number in (1, 2, 3, 4):
            given.write(number, [number])
        self.assertEqual([frame[1] for frame in said(given)], [2, 4, 3, 1])
        # Now the order is 2, 4, 3, 1; a new one comes last.
        tell(given, ("open", 6), ("permit", 6, 1))
        given.write(6, [6, 6])
        self.assertEqual(given.open_channel(), 5)
        given.finish(5)
        for number in (1, 4, 2):
            given.write(number, [number])
        self.assertEqual(said(given), [("open", 5), ("permit", 6, 20), ("permit", 5, 20), ("octets", 2, [2]),
                                       ("octets", 4, [4]), ("octets", 1, [1]), ("octets", 6, [6]), ("end", 5)])

    def test_an_end_moves_its_channel(self):
        given = side(True, window=4, most=4)
        for _ in range(3):
            given.open_channel()
        said(given)
        given.finish(1)
        self.assertEqual(said(given), [("end", 1)])
        for number in (1, 3, 5):
            tell(given, ("octets", number, [0, 0]))
            given.read(number, 2)
        self.assertEqual(said(given), [("permit", 3, 2), ("permit", 5, 2), ("permit", 1, 2)])

    def test_opens_resets_and_permits_do_not_move_a_channel(self):
        given = side(True, window=4, most=1)
        for _ in range(3):
            given.open_channel()
        for number in (1, 3, 5):
            tell(given, ("permit", number, 4))
        said(given)
        tell(given, ("octets", 1, [0, 0]))
        given.read(1, 2)
        for number in (1, 3, 5):
            given.write(number, [number])
        self.assertEqual(said(given), [("permit", 1, 2), ("octets", 1, [1]), ("octets", 3, [3]), ("octets", 5, [5])])

    def test_permits_and_resets_follow_the_order_of_turns(self):
        given = side(True, window=4, most=4)
        for _ in range(3):
            given.open_channel()
        for number in (1, 3, 5):
            tell(given, ("permit", number, 4))
        said(given)
        given.write(1, [1])
        given.write(3, [3])
        self.assertEqual([frame[1] for frame in said(given)], [1, 3])
        for number in (1, 3, 5):
            tell(given, ("octets", number, [0, 0]))
            given.read(number, 2)
        self.assertEqual(said(given), [("permit", 5, 2), ("permit", 1, 2), ("permit", 3, 2)])
        for number in (1, 3, 5):
            given.reset(number, number)
        self.assertEqual(said(given), [("reset", 5, 5), ("reset", 1, 1), ("reset", 3, 3)])

    def test_a_channel_that_is_reset_there_sends_nothing(self):
        given = opened(credit=9)
        given.write(1, [1])
        given.finish(1)
        tell(given, ("reset", 1, 4))
        self.assertEqual(said(given), [])
        given.reset(1, 5)
        self.assertEqual(said(given), [])


class TakesTest(unittest.TestCase):
    def test_takes_of_0_1_and_many_octets(self):
        given = side(True)
        given.open_channel()
        tell(given, ("permit", 1, 9))
        given.write(1, [5, 6])
        whole = octets_of(("open", 1), ("permit", 1, 10), ("octets", 1, [5, 6]))
        self.assertEqual(given.take(0), [])
        self.assertEqual(given.take(1), whole[:1])
        self.assertEqual(given.take(0), [])
        self.assertEqual(given.take(3), whole[1:4])
        self.assertEqual(given.take(100), whole[4:])
        self.assertEqual(given.take(100), [])

    def test_each_count(self):
        for count in range(1, 20):
            given = side(True)
            for number in (1, 3):
                given.open_channel()
                tell(given, ("permit", number, 9))
                given.write(number, [5, 6, 7, 8, 9])
                given.finish(number)
            whole, found = given.fork().take(1000), []
            while True:
                octets = given.take(count)
                found += octets
                if len(octets) < count:
                    break
            self.assertEqual(found, whole)

    def test_a_take_of_0_octets_makes_no_frame(self):
        given = side(True)
        given.open_channel()
        before = frozen(given)
        self.assertEqual(given.take(0), [])
        self.assertEqual(frozen(given), before)

    def test_no_more_frames_are_made_than_the_count_needs(self):
        given = side(True)
        given.open_channel()
        self.assertEqual(given.take(3), [1, 0, 1])
        # The permit is not made yet: the reset comes instead of it.
        given.reset(1, 2)
        self.assertEqual(said(given), [("reset", 1, 2)])

    def test_a_frame_in_parts_with_calls_in_between(self):
        given = opened(credit=9, most=3)
        given.write(1, [1, 2, 3, 4])
        first = given.take(2)
        # The frame is made: what happens now comes behind it, and the octets in it are not taken back.
        given.open_channel()
        given.reset(1, 8)
        self.assertEqual(given.status(1)["waiting"], 0)
        rest = given.take(100)
        self.assertEqual(frames_of(first + rest), [("octets", 1, [1, 2, 3]), ("open", 3), ("reset", 1, 8),
                                                   ("permit", 3, 10)])

    def test_octets_that_are_written_behind_a_frame_that_waits(self):
        given = opened(credit=9, most=4)
        given.write(1, [1, 2])
        first = given.take(1)
        given.write(1, [3, 4, 5])
        self.assertEqual(given.status(1), {"writable": 7, "waiting": 3, "readable": 0, "finished": False,
                                           "at_end": False, "reset": None})
        self.assertEqual(frames_of(first + given.take(100)), [("octets", 1, [1, 2]), ("octets", 1, [3, 4, 5])])

    def test_a_count_below_0(self):
        given = opened(credit=9)
        given.write(1, [1])
        before = frozen(given)
        for count in (-1, -100):
            self.assertRaises(InvalidAmount, given.take, count)
        self.assertEqual(frozen(given), before)

    def test_what_is_handed_out_may_be_changed(self):
        given = opened(credit=9)
        given.write(1, [1, 2])
        given.take(3).append(7)
        self.assertEqual(given.take(10), [0, 2, 1, 2])


class CallsTest(unittest.TestCase):
    def test_a_write_takes_what_the_window_has_room_for_beside_the_queue(self):
        given = opened(window=10)
        self.assertEqual(given.write(1, []), 0)
        self.assertEqual(given.write(1, [1] * 7), 7)
        self.assertEqual(given.write(1, [2] * 4), 3)
        self.assertEqual(given.write(1, [3]), 0)
        tell(given, ("permit", 1, 5))
        self.assertEqual(said(given), [("octets", 1, [1, 1, 1, 1]), ("octets", 1, [1])])
        self.assertEqual(given.write(1, [3] * 9), 5)
        tell(given, ("permit", 1, 10))
        self.assertEqual([octet for frame in said(given) for octet in frame[2]], [1, 1, 2, 2, 2, 3, 3, 3, 3, 3])

    def test_writes_to_a_channel_that_is_finished_or_reset(self):
        for break_off in (lambda given: given.finish(1), lambda given: given.reset(1, 0),
                          lambda given: tell(given, ("reset", 1, 0))):
            given = opened(credit=9)
            break_off(given)
            self.assertEqual((given.write(1, [1]), given.status(1)["writable"], given.status(1)["waiting"]), (0, 0, 0))

    def test_the_end_of_the_other_side_does_not_stop_writes(self):
        given = opened(credit=9)
        tell(given, ("end", 1))
        self.assertEqual(given.write(1, [1]), 1)
        self.assertEqual(said(given), [("octets", 1, [1])])

    def test_reads(self):
        given = opened()
        tell(given, ("octets", 1, [1, 2, 3]), ("octets", 1, [4, 5]))
        self.assertEqual(given.read(1, 0), [])
        self.assertEqual(given.read(1, 2), [1, 2])
        self.assertEqual(given.read(1, 2), [3, 4])
        self.assertEqual(given.read(1, 2), [5])
        self.assertEqual(given.read(1, 2), [])

    def test_a_list_that_was_read_may_be_changed(self):
        given = opened()
        tell(given, ("octets", 1, [1, 2, 3]))
        given.read(1, 1).append(9)
        self.assertEqual(given.read(1, 5), [2, 3])

    def test_what_is_written_and_received_is_copied(self):
        given = opened(credit=9)
        written, received = [1, 2], octets_of(("octets", 1, [5, 6]))
        given.write(1, written)
        given.receive(received[:3])
        self.assertEqual((written, received[:3]), ([1, 2], [2, 0, 1]))
        rest = received[3:]
        given.receive(rest)
        written.append(3)
        rest.clear()
        self.assertEqual(said(given), [("octets", 1, [1, 2])])
        self.assertEqual(given.read(1, 5), [5, 6])

    def test_a_reset_drops_the_queue_and_what_is_ready(self):
        given = opened()
        given.write(1, [1, 2])
        tell(given, ("octets", 1, [3, 4]))
        self.assertIsNone(given.reset(1, 9))
        self.assertEqual(given.status(1), {"writable": 0, "waiting": 0, "readable": 0, "finished": False,
                                           "at_end": False, "reset": ("here", 9)})
        self.assertEqual(given.read(1, 5), [])

    def test_a_reset_that_comes_twice(self):
        given = opened()
        given.reset(1, 9)
        before = frozen(given)
        given.reset(1, 10)
        self.assertEqual(frozen(given), before)
        self.assertEqual(said(given), [("reset", 1, 9)])
        given.reset(1, 10)
        self.assertEqual(said(given), [])
        given = opened()
        tell(given, ("reset", 1, 4))
        given.reset(1, 10)
        self.assertEqual(given.status(1)["reset"], ("there", 4))
        self.assertEqual(said(given), [])

    def test_codes_at_their_bounds(self):
        for code in (0, 1, 65535):
            given = opened()
            given.reset(1, code)
            self.assertEqual(said(given), [("reset", 1, code)])
        for code in (-1, 65536):
            given = opened()
            before = frozen(given)
            self.assertRaises(InvalidAmount, given.reset, 1, code)
            self.assertEqual(frozen(given), before)
            given.reset(1, 3)
            self.assertRaises(InvalidAmount, given.reset, 1, code)

    def test_calls_that_return_none(self):
        given = opened()
        self.assertIsNone(given.finish(1))
        self.assertIsNone(given.finish(1))
        self.assertIsNone(given.reset(1, 1))
        self.assertIsNone(given.receive([]))

    def test_unknown_channels(self):
        given = opened()
        tell(given, ("open", 2))
        before = frozen(given)
        for number in (-1, 0, 3, 4, 5, 200, 70000):
            for call in (lambda: given.write(number, [1]), lambda: given.read(number, 1), lambda: given.finish(number),
                         lambda: given.reset(number, 1), lambda: given.status(number),
                         # Of two errors, this one is named first.
                         lambda: given.read(number, -1), lambda: given.reset(number, -1),
                         lambda: given.reset(number, 65536)):
                self.assertRaises(UnknownChannel, call)
        self.assertEqual(frozen(given), before)

    def test_a_read_of_a_count_below_0(self):
        given = opened()
        tell(given, ("octets", 1, [1]))
        before = frozen(given)
        self.assertRaises(InvalidAmount, given.read, 1, -1)
        self.assertEqual(frozen(given), before)


class StatusTest(unittest.TestCase):
    KEYS = ["writable", "waiting", "readable", "finished", "at_end", "reset"]

    def check(self, given, *values):
        status = given.status(1)
        self.assertEqual(list(status), self.KEYS)
        self.assertEqual(list(status.values()), list(values))
        self.assertIs(status["finished"], values[3])
        self.assertIs(status["at_end"], values[4])

    def test_each_state(self):
        given = side()
        given.open_channel()
        self.check(given, 10, 0, 0, False, False, None)
        given = opened()
        self.check(given, 10, 0, 0, False, False, None)
        given.write(1, [1, 2, 3])
        self.check(given, 7, 3, 0, False, False, None)
        tell(given, ("octets", 1, [5, 6]))
        self.check(given, 7, 3, 2, False, False, None)
        tell(given, ("permit", 1, 2))
        self.check(given, 7, 3, 2, False, False, None)
        said(given)
        self.check(given, 9, 1, 2, False, False, None)
        given.finish(1)
        self.check(given, 0, 1, 2, True, False, None)
        tell(given, ("end", 1))
        self.check(given, 0, 1, 2, True, False, None)
        given.read(1, 1)
        self.check(given, 0, 1, 1, True, False, None)
        given.read(1, 1)
        self.check(given, 0, 1, 0, True, True, None)
        here, there = given.fork(), given.fork()
        here.reset(1, 4)
        self.check(here, 0, 0, 0, True, False, ("here", 4))
        said(here)
        self.check(here, 0, 0, 0, True, False, ("here", 4))
        tell(there, ("reset", 1, 5))
        self.check(there, 0, 0, 0, True, False, ("there", 5))
        self.assertIsInstance(there.status(1)["reset"], tuple)

    def test_a_finish_of_a_channel_that_is_reset(self):
        given = opened()
        given.reset(1, 2)
        said(given)
        given.finish(1)
        self.check(given, 0, 0, 0, True, False, ("here", 2))
        self.assertEqual(said(given), [])

    def test_an_end_without_octets(self):
        given = opened()
        tell(given, ("end", 1))
        self.check(given, 10, 0, 0, False, True, None)

    def test_a_side_that_has_failed(self):
        given = opened()
        given.write(1, [1])
        tell(given, ("octets", 1, [2]), ("open", 1))
        self.check(given, 0, 1, 1, False, False, None)

    def test_asking_changes_nothing(self):
        given = opened(credit=9)
        given.write(1, [1])
        before = frozen(given)
        given.status(1)["reset"] = 5
        self.assertEqual((len(given), list(given)), (1, [1]))
        self.assertEqual(frozen(given), before)


class ForkTest(unittest.TestCase):
    def full(self):
        """A side with something in each of its parts."""
        given = side(True, 10, 4)
        for _ in range(3):
            given.open_channel()
        tell(given, ("open", 2), ("open", 4), ("open", 6))
        tell(given, ("permit", 1, 9), ("permit", 2, 3))
        given.accept()
        given.write(1, [1, 2, 3])
        # Three frames "open", six frames "permit", and half of the octets of the channel 1.
        given.take(3 * 3 + 6 * 5 + 4)
        tell(given, ("octets", 1, [4, 5]), ("octets", 2, [6]), ("end", 2), ("reset", 4, 5))
        given.write(1, [6])
        given.write(2, [7, 8, 9, 1, 2])
        given.reset(3, 1)
        given.finish(5)
        given.receive([2, 0, 1, 0])
        self.assertIsNone(given.failure)
        return given

    def changes(self):
        return [
            lambda given: given.open_channel(), lambda given: given.accept(), lambda given: given.write(1, [1]),
            lambda given: given.read(1, 1), lambda given: given.finish(1), lambda given: given.reset(1, 7),
            lambda given: given.take(1), lambda given: given.take(100), lambda given: given.receive([1]),
            lambda given: given.receive([1, 9, 3, 0, 1, 0, 5]), lambda given: given.receive([1, 9, 1, 0, 8]),
            lambda given: given.receive([1, 9, 8, 0, 0]), lambda given: given.receive([1, 9, 5, 0, 1, 0, 9]),
        ]

    def test_an_equal_side(self):
        given = self.full()
        other = given.fork()
        self.assertIsInstance(other, Channels)
        self.assertEqual(frozen(other), frozen(given))
        for first in (True, False):
            self.assertEqual(frozen(side(first).fork()), frozen(side(first)))

    def test_what_was_told_is_not_told_again(self):
        given = opened()
        given.finish(1)
        given.open_channel()
        given.reset(3, 4)
        self.assertEqual(said(given), [("open", 3), ("reset", 3, 4), ("end", 1)])
        other = given.fork()
        self.assertEqual(frozen(other), frozen(given))
        self.assertEqual(said(other), [])

    def test_later_calls_on_either_do_not_change_the_other(self):
        for at, change in enumerate(self.changes()):
            with self.subTest(at):
                given = self.full()
                other = given.fork()
                before = frozen(given)
                change(other)
                self.assertEqual(frozen(given), before)
                self.assertNotEqual(frozen(other), before)
                changed = frozen(other)
                change(given)
                self.assertEqual(frozen(given), changed)
                for more in self.changes():
                    more(given)
                self.assertEqual(frozen(other), changed)


if __name__ == "__main__":
    unittest.main()
