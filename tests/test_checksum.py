import random
import unittest

from throughline.wire.checksum import checksum, is_intact, octet_sum


def plain_sum(sender, target, octets):
    """The sum of point 11, word by word."""
    total = sender + target + 6 + len(octets)
    for index, octet in enumerate(octets):
        total += 256 * octet if index % 2 == 0 else octet
    return total


class ChecksumTest(unittest.TestCase):
    def test_the_sum_of_no_octets(self):
        self.assertEqual(octet_sum(0, 0, []), 6)
        self.assertEqual(octet_sum(3, 0, []), 9)
        self.assertEqual(octet_sum(0, 4, []), 10)
        self.assertEqual(octet_sum(65535, 65535, []), 131076)

    def test_the_sum_of_an_even_number_of_octets(self):
        self.assertEqual(octet_sum(0, 0, [1, 2]), 6 + 2 + 258)
        self.assertEqual(octet_sum(10, 20, [1, 2, 3, 4]), 30 + 6 + 4 + 258 + 772)
        self.assertEqual(octet_sum(65535, 0, [255, 255]), 65535 + 6 + 2 + 65535)

    def test_the_sum_of_an_odd_number_of_octets(self):
        self.assertEqual(octet_sum(0, 0, [1]), 6 + 1 + 256)
        self.assertEqual(octet_sum(1, 2, [1, 2, 3]), 3 + 6 + 3 + 258 + 768)
        self.assertEqual(octet_sum(0, 65535, [0, 0, 255]), 65535 + 6 + 3 + 65280)

    def test_octets_are_intact_if_the_sum_is_divisible_by_65535(self):
        self.assertIs(is_intact(65529, 0, []), True)
        self.assertIs(is_intact(0, 65529, []), True)
        self.assertIs(is_intact(65535, 65529, []), True)
        self.assertIs(is_intact(65528, 0, []), False)
        self.assertIs(is_intact(65530, 0, []), False)
        self.assertIs(is_intact(0, 0, []), False)
        self.assertIs(is_intact(0, 0, [255, 247]), True)
        self.assertIs(is_intact(0, 0, [247, 255]), False)

    def test_the_checksum(self):
        self.assertEqual(checksum(0, 0, []), 65529)
        self.assertEqual(checksum(0, 0, [1]), 65535 - 263)
        self.assertEqual(checksum(65535, 65535, [0, 0]), 65535 - 8)

    def test_the_checksum_is_0_if_the_sum_is_divisible(self):
        self.assertEqual(checksum(65529, 0, []), 0)
        self.assertEqual(checksum(65535, 65529, []), 0)
        self.assertEqual(checksum(0, 0, [255, 247]), 0)

    def test_the_checksum_next_to_a_divisible_sum(self):
        self.assertEqual(checksum(65528, 0, []), 1)
        self.assertEqual(checksum(65530, 0, []), 65534)

    def test_octets_with_their_checksum_in_place_are_intact(self):
        draws = random.Random(1)
        for size in list(range(2, 30)) + [999, 1500]:
            for sender, target in ((0, 0), (0, 65535), (65535, 0), (65535, 65535), (513, 40000)):
                octets = [draws.randrange(256) for _ in range(size)]
                place = 2 * draws.randrange(size // 2)
                octets[place:place + 2] = [0, 0]
                self.assertEqual(octet_sum(sender, target, octets), plain_sum(sender, target, octets))
                number = checksum(sender, target, octets)
                self.assertTrue(0 <= number < 65535)
                octets[place:place + 2] = [number // 256, number % 256]
                self.assertIs(is_intact(sender, target, octets), True)
                self.assertEqual(plain_sum(sender, target, octets) % 65535, 0)

    def test_the_octets_are_not_changed(self):
        octets = [1, 2, 3]
        octet_sum(1, 2, octets)
        is_intact(1, 2, octets)
        checksum(1, 2, octets)
        self.assertEqual(octets, [1, 2, 3])


if __name__ == "__main__":
    unittest.main()
