import unittest

from throughline.net.seeds import draw, next_seed

CIRCLE = 4294967296


class SeedsTest(unittest.TestCase):
    def test_the_next_seed(self):
        self.assertEqual(next_seed(0), 1013904223)
        self.assertEqual(next_seed(1), 1015568748)
        self.assertEqual(next_seed(4294967295), 1012239698)
        self.assertEqual(next_seed(2147483648), (1664525 * 2147483648 + 1013904223) % CIRCLE)
        self.assertEqual(next_seed(123456789), (1664525 * 123456789 + 1013904223) % CIRCLE)

    def test_it_stays_below_the_circle(self):
        seed = 0
        for _ in range(1000):
            seed = next_seed(seed)
            self.assertTrue(0 <= seed < CIRCLE)

    def test_a_draw(self):
        self.assertEqual(draw(0, 1000), (1013904223, 236))
        self.assertEqual(draw(4294967295, 1000), (1012239698, 235))
        self.assertEqual(draw(0, CIRCLE), (1013904223, 1013904223))
        self.assertIsInstance(draw(0, 5), tuple)

    def test_a_draw_below_1(self):
        for seed in (0, 1, 77, 4294967295):
            self.assertEqual(draw(seed, 1), (next_seed(seed), 0))

    def test_each_number_is_drawn(self):
        for below in (2, 3, 10):
            seed, found = 5, set()
            for _ in range(300):
                before = seed
                seed, number = draw(seed, below)
                self.assertEqual((seed, number), (next_seed(before), next_seed(before) * below // CIRCLE))
                found.add(number)
            self.assertEqual(found, set(range(below)))


if __name__ == "__main__":
    unittest.main()
