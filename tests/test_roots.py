import random
import unittest

from throughline.pace.roots import cube_root


class CubeRootTest(unittest.TestCase):
    def test_small_numbers(self):
        found = [cube_root(number) for number in range(30)]
        self.assertEqual(found, [0] + [1] * 7 + [2] * 19 + [3] * 3)

    def test_third_powers_and_the_numbers_beside_them(self):
        for root in [*range(1, 200), 10 ** 6, 2 ** 31, 2 ** 32, 10 ** 9 + 7, 10 ** 20, 10 ** 20 - 1, 2 ** 66]:
            self.assertEqual(cube_root(root ** 3), root)
            self.assertEqual(cube_root(root ** 3 - 1), root - 1)
            self.assertEqual(cube_root(root ** 3 + 1), root)

    def test_powers_of_two_and_ten(self):
        for number in [*(2 ** k for k in range(201)), *(10 ** k for k in range(61))]:
            for near in (number - 1, number, number + 1):
                root = cube_root(near)
                self.assertTrue(root ** 3 <= near < (root + 1) ** 3, near)

    def test_numbers_up_to_10_to_the_60(self):
        draws = random.Random(61)
        for _ in range(500):
            number = draws.randrange(10 ** draws.randrange(1, 61))
            root = cube_root(number)
            self.assertTrue(root ** 3 <= number < (root + 1) ** 3, number)
        self.assertEqual(cube_root(10 ** 60), 10 ** 20)
        self.assertEqual(cube_root(10 ** 60 - 1), 10 ** 20 - 1)


if __name__ == "__main__":
    unittest.main()
