import random
import unittest

from tests.frozen import frozen
from throughline.carried.messages import Messages, frame_message
from throughline.errors import InvalidAmount


class FrameMessageTest(unittest.TestCase):
    def test_frames(self):
        self.assertEqual(frame_message([]), [0, 0])
        self.assertEqual(frame_message([7]), [0, 1, 7])
        self.assertEqual(frame_message([1, 2, 3]), [0, 3, 1, 2, 3])
        self.assertEqual(frame_message([9] * 256), [1, 0] + [9] * 256)

    def test_the_longest_message(self):
        self.assertEqual(frame_message([5] * 65535), [255, 255] + [5] * 65535)
        for size in (65536, 65537, 70000):
            self.assertRaises(InvalidAmount, frame_message, [5] * size)

    def test_the_octets_are_left_alone(self):
        octets = [1, 2]
        frame = frame_message(octets)
        frame.append(3)
        self.assertEqual(octets, [1, 2])


class MessagesTest(unittest.TestCase):
    def test_ahead_of_the_first_message(self):
        reader = Messages()
        self.assertEqual((reader.pending, reader.feed([]), reader.pending), (0, [], 0))

    def test_octet_by_octet(self):
        reader = Messages()
        found = []
        for octet in (0, 2, 8, 9, 0, 0, 0, 1, 7):
            found.append((reader.feed([octet]), reader.pending))
        self.assertEqual(found, [([], 1), ([], 2), ([], 3), ([[8, 9]], 0), ([], 1), ([[]], 0), ([], 1), ([], 2),
                                 ([[7]], 0)])

    def test_several_messages_in_one_feed(self):
        reader = Messages()
        self.assertEqual(reader.feed([0, 1, 5, 0, 0, 0, 2, 6, 7, 0]), [[5], [], [6, 7]])
        self.assertEqual(reader.pending, 1)
        self.assertEqual(reader.feed([3, 1]), [])
        self.assertEqual(reader.pending, 3)
        self.assertEqual(reader.feed([2, 3, 0, 0]), [[1, 2, 3], []])
        self.assertEqual(reader.pending, 0)

    def test_each_cut(self):
        messages = [[], [1], [2, 3, 0, 0], [], [4] * 300]
        stream = [octet for message in messages for octet in frame_message(message)]
        for first in range(len(stream) + 1):
            for second in (first, min(len(stream), first + 2), len(stream)):
                reader = Messages()
                found = []
                for start, stop in ((0, first), (first, second), (second, len(stream))):
                    found += reader.feed(stream[start:stop])
                    whole = sum(len(message) + 2 for message in found)
                    self.assertEqual(reader.pending, stop - whole)
                self.assertEqual(found, messages)

    def test_the_longest_message(self):
        reader = Messages()
        frame = frame_message([5] * 65535)
        self.assertEqual((reader.feed(frame[:-1]), reader.pending), ([], 65536))
        self.assertEqual((reader.feed([5, 0]), reader.pending), ([[5] * 65535], 1))

    def test_drawn_cuts(self):
        draws = random.Random(121)
        for _ in range(60):
            messages = [[draws.randrange(256) for _ in range(draws.choice([0, 0, 1, 2, 9, 700]))] for _ in range(20)]
            stream = [octet for message in messages for octet in frame_message(message)]
            reader, found, at = Messages(), [], 0
            while at < len(stream):
                stop = at + draws.choice([0, 1, 2, 3, 50, 900])
                found += reader.feed(stream[at:stop])
                at = stop
                self.assertEqual(found, messages[:len(found)])
            self.assertEqual((found, reader.pending), (messages, 0))

    def test_what_is_fed_is_left_alone(self):
        reader = Messages()
        octets = [0, 2, 1]
        reader.feed(octets)
        self.assertEqual(octets, [0, 2, 1])
        octets.append(9)
        found = reader.feed([2, 0])
        self.assertEqual(found, [[1, 2]])
        found[0].append(3)
        self.assertEqual(reader.feed([1, 4]), [[4]])

    def test_asking_changes_nothing(self):
        reader = Messages()
        reader.feed([0, 2, 1])
        before = frozen(reader)
        self.assertEqual((reader.pending, reader.pending), (3, 3))
        self.assertEqual(frozen(reader), before)


if __name__ == "__main__":
    unittest.main()
