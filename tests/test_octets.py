import unittest

from throughline.errors import InvalidOctets, ThroughlineError
from throughline.wire.octets import from_hex, read_number, to_hex, write_number


class NumbersTest(unittest.TestCase):
    def test_the_most_significant_octet_comes_first(self):
        self.assertEqual(write_number(1, 4), [0, 0, 0, 1])
        self.assertEqual(write_number(0x01020304, 4), [1, 2, 3, 4])
        self.assertEqual(write_number(258, 2), [1, 2])
        self.assertEqual(write_number(4294967295, 4), [255, 255, 255, 255])
        self.assertEqual(write_number(0, 2), [0, 0])
        self.assertEqual(write_number(255, 1), [255])

    def test_only_the_remainder_of_a_greater_number_is_written(self):
        self.assertEqual(write_number(256, 1), [0])
        self.assertEqual(write_number(258, 1), [2])
        self.assertEqual(write_number(4294967296, 4), [0, 0, 0, 0])
        self.assertEqual(write_number(2 ** 40 + 0x10203, 2), [2, 3])

    def test_a_size_of_0_gives_no_octets(self):
        self.assertEqual(write_number(0, 0), [])
        self.assertEqual(write_number(77, 0), [])

    def test_more_octets_than_needed_begin_with_0(self):
        self.assertEqual(write_number(513, 12), [0] * 10 + [2, 1])

    def test_reading(self):
        self.assertEqual(read_number([1, 2]), 258)
        self.assertEqual(read_number([0, 0, 1, 0]), 256)
        self.assertEqual(read_number([255]), 255)
        self.assertEqual(read_number([255, 255, 255, 255]), 4294967295)
        self.assertEqual(read_number([1] + [0] * 20), 256 ** 20)

    def test_no_octets_are_read_as_0(self):
        self.assertEqual(read_number([]), 0)

    def test_a_number_that_was_written_is_read_again(self):
        for size in range(7):
            for number in (0, 1, 127, 128, 255, 256, 65535, 65536, 123456789, 2 ** 32, 2 ** 48 - 1, 2 ** 60 + 5):
                with self.subTest(size=size, number=number):
                    octets = write_number(number, size)
                    self.assertEqual(len(octets), size)
                    self.assertTrue(all(0 <= octet <= 255 for octet in octets))
                    self.assertEqual(read_number(octets), number % 256 ** size)

    def test_arguments_and_results_are_kept_apart(self):
        octets = [1, 2, 3]
        read_number(octets)
        self.assertEqual(octets, [1, 2, 3])
        first = write_number(5, 2)
        first.append(9)
        self.assertEqual(write_number(5, 2), [0, 5])


class TextTest(unittest.TestCase):
    def test_two_lower_case_digits_for_each_octet(self):
        self.assertEqual(to_hex([0, 1, 10, 16, 171, 255]), "00010a10abff")

    def test_no_octets_are_the_empty_text(self):
        self.assertEqual(to_hex([]), "")
        self.assertEqual(from_hex(""), [])

    def test_each_octet_is_written_and_read(self):
        for octet in range(256):
            self.assertEqual(to_hex([octet]), format(octet, "02x"))
            self.assertEqual(from_hex(format(octet, "02x")), [octet])
        self.assertEqual(from_hex(to_hex(list(range(256)))), list(range(256)))

    def test_reading_several_octets(self):
        self.assertEqual(from_hex("00010a10abff"), [0, 1, 10, 16, 171, 255])

    def test_an_odd_number_of_characters_is_refused(self):
        for text in ("0", "f", "001", "abcde"):
            with self.subTest(text), self.assertRaises(InvalidOctets):
                from_hex(text)

    def test_other_characters_are_refused(self):
        for text in ("AB", "aB", "Ab", "FF", "0x", "0g", "g0", "00zz", " 1", "1 ", "+1", "-1", "1_", "_1", "1.", "\n0",
                     "0\n", "00 11 ", "/0", "0:", "`0", "0@", "\u0661\u0662", "\uff11\uff12", "\u00b2\u00b2", "\0000"):
            with self.subTest(text), self.assertRaises(InvalidOctets):
                from_hex(text)

    def test_both_faults_at_once_are_refused(self):
        for text in ("G", "0 0", "ABC"):
            with self.subTest(text), self.assertRaises(InvalidOctets):
                from_hex(text)

    def test_the_error_is_one_of_the_program_and_a_value_error(self):
        for kind in (ThroughlineError, ValueError):
            with self.assertRaises(kind):
                from_hex("0")

    def test_the_octets_are_not_changed(self):
        octets = [1, 255]
        to_hex(octets)
        self.assertEqual(octets, [1, 255])


if __name__ == "__main__":
    unittest.main()
