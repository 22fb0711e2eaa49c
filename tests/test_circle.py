import random
import unittest

from throughline.offsets.circle import unwrap, wrap

CIRCLE = 4294967296
HALF = 2147483648


class WrapTest(unittest.TestCase):
    def test_the_first_number_0(self):
        for offset, number in ((0, 0), (1, 1), (CIRCLE - 1, CIRCLE - 1), (CIRCLE, 0), (CIRCLE + 5, 5),
                               (7 * CIRCLE + 9, 9)):
            self.assertEqual(wrap(0, offset), number)

    def test_the_last_first_number(self):
        for offset, number in ((0, CIRCLE - 1), (1, 0), (2, 1), (CIRCLE - 1, CIRCLE - 2), (CIRCLE, CIRCLE - 1),
                               (CIRCLE + 1, 0), (3 * CIRCLE + 9, 8)):
            self.assertEqual(wrap(CIRCLE - 1, offset), number)

    def test_a_first_number_between(self):
        self.assertEqual(wrap(100, 50), 150)
        self.assertEqual(wrap(CIRCLE - 10, 9), CIRCLE - 1)
        self.assertEqual(wrap(CIRCLE - 10, 10), 0)


class UnwrapTest(unittest.TestCase):
    def test_a_number_close_by(self):
        self.assertEqual(unwrap(0, 0, 0), 0)
        self.assertEqual(unwrap(0, 100, 90), 90)
        self.assertEqual(unwrap(0, 100, 110), 110)
        self.assertEqual(unwrap(1000, 5, 1007), 7)
        self.assertEqual(unwrap(CIRCLE - 1, 0, CIRCLE - 1), 0)
        self.assertEqual(unwrap(CIRCLE - 1, 0, 0), 1)
        self.assertEqual(unwrap(CIRCLE - 1, 3, 7), 8)

    def test_offsets_above_the_circle(self):
        self.assertEqual(unwrap(0, CIRCLE, 0), CIRCLE)
        self.assertEqual(unwrap(0, CIRCLE, CIRCLE - 1), CIRCLE - 1)
        self.assertEqual(unwrap(0, CIRCLE - 1, 3), CIRCLE + 3)
        self.assertEqual(unwrap(CIRCLE - 1, 5 * CIRCLE, 9), 5 * CIRCLE + 10)
        self.assertEqual(unwrap(CIRCLE - 1, 5 * CIRCLE, CIRCLE - 9), 5 * CIRCLE - 8)

    def test_both_edges_of_the_window(self):
        for first in (0, 1, 77, HALF, CIRCLE - 1):
            for near in (HALF, HALF + 1, CIRCLE - 1, CIRCLE, 6 * CIRCLE + 12345):
                with self.subTest(first=first, near=near):
                    low, high = near - HALF, near + HALF - 1
                    self.assertEqual(unwrap(first, near, wrap(first, low)), low)
                    self.assertEqual(unwrap(first, near, wrap(first, high)), high)

    def test_one_beyond_each_edge_is_read_at_the_other_one(self):
        for first in (0, 1, 77, HALF, CIRCLE - 1):
            for near in (HALF, CIRCLE, 6 * CIRCLE + 12345):
                with self.subTest(first=first, near=near):
                    low, high = near - HALF, near + HALF - 1
                    self.assertEqual(unwrap(first, near, wrap(first, low - 1)), high)
                    self.assertEqual(unwrap(first, near, wrap(first, high + 1)), low)

    def test_no_offset_is_read_below_0(self):
        self.assertIsNone(unwrap(0, 0, CIRCLE - 1))
        self.assertIsNone(unwrap(0, 0, HALF))
        self.assertEqual(unwrap(0, 0, HALF - 1), HALF - 1)
        self.assertIsNone(unwrap(0, 10, CIRCLE - 1))
        self.assertIsNone(unwrap(0, 10, HALF + 10))
        self.assertEqual(unwrap(0, 10, HALF + 9), HALF + 9)
        self.assertIsNone(unwrap(CIRCLE - 1, 0, CIRCLE - 2))
        self.assertIsNone(unwrap(5, 0, 4))
        self.assertEqual(unwrap(5, 0, 5), 0)
        self.assertIsNone(unwrap(0, HALF - 1, CIRCLE - 1))
        self.assertEqual(unwrap(0, HALF, CIRCLE - 1), CIRCLE - 1)

    def test_what_was_written_is_read_again(self):
        draws = random.Random(5)
        for _ in range(3000):
            first = draws.choice([0, CIRCLE - 1, draws.randrange(CIRCLE)])
            near = draws.choice([0, 3, HALF, draws.randrange(9 * CIRCLE)])
            offset = near + draws.choice([-HALF, HALF - 1, draws.randrange(-HALF, HALF), draws.randrange(-9, 9)])
            number = (first + offset) % CIRCLE
            if offset >= 0:
                self.assertEqual(wrap(first, offset), number)
            self.assertEqual(unwrap(first, near, number), offset if offset >= 0 else None)


if __name__ == "__main__":
    unittest.main()
