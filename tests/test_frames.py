import unittest

from throughline.carried.frames import first_frame, write_frame
from throughline.errors import InvalidFrame

FRAMES = [
    (("open", 1), [1, 0, 1]),
    (("open", 258), [1, 1, 2]),
    (("octets", 3, [7, 8]), [2, 0, 3, 0, 2, 7, 8]),
    (("octets", 3, []), [2, 0, 3, 0, 0]),
    (("octets", 65535, [9] * 300), [2, 255, 255, 1, 44] + [9] * 300),
    (("permit", 4, 513), [3, 0, 4, 2, 1]),
    (("permit", 4, 0), [3, 0, 4, 0, 0]),
    (("permit", 4, 65535), [3, 0, 4, 255, 255]),
    (("end", 5), [4, 0, 5]),
    (("end", 0), [4, 0, 0]),
    (("reset", 6, 0), [5, 0, 6, 0, 0]),
    (("reset", 6, 65535), [5, 0, 6, 255, 255]),
    (("reset", 512, 259), [5, 2, 0, 1, 3]),
]


class FramesTest(unittest.TestCase):
    def test_writing(self):
        for frame, octets in FRAMES:
            with self.subTest(frame[:2]):
                self.assertEqual(write_frame(frame), octets)

    def test_reading(self):
        for frame, octets in FRAMES:
            with self.subTest(frame[:2]):
                found = first_frame(octets)
                self.assertEqual(found, (frame, len(octets)))
                self.assertIsInstance(found, tuple)
                self.assertIsInstance(found[0], tuple)

    def test_octets_behind_a_frame(self):
        for frame, octets in FRAMES:
            for more in ([0], [0, 0, 0, 0], [255] * 9, octets):
                with self.subTest(frame[:2], more=len(more)):
                    self.assertEqual(first_frame(octets + more), (frame, len(octets)))

    def test_fewer_octets_than_a_frame_at_each_length(self):
        for frame, octets in FRAMES:
            for size in range(len(octets)):
                with self.subTest(frame[:2], size=size):
                    self.assertIsNone(first_frame(octets[:size]))

    def test_unknown_kinds(self):
        for kind in (0, 6, 7, 128, 255):
            for size in (1, 2):
                self.assertIsNone(first_frame([kind, 0, 1][:size]))
            for more in range(4):
                self.assertRaises(InvalidFrame, first_frame, [kind, 0, 1, 0, 0, 0][:3 + more])

    def test_no_octets(self):
        self.assertIsNone(first_frame([]))

    def test_the_greatest_frame(self):
        octets = write_frame(("octets", 1, [3] * 65535))
        self.assertEqual(octets[:5], [2, 0, 1, 255, 255])
        self.assertEqual(first_frame(octets), (("octets", 1, [3] * 65535), 65540))
        self.assertIsNone(first_frame(octets[:-1]))

    def test_lists_of_their_own(self):
        data = [1, 2]
        octets = write_frame(("octets", 1, data))
        octets.append(3)
        self.assertEqual(data, [1, 2])
        frame, _ = first_frame(octets)
        frame[2].append(4)
        self.assertEqual(octets, [2, 0, 1, 0, 2, 1, 2, 3])


if __name__ == "__main__":
    unittest.main()
