import unittest

from throughline.errors import InvalidDeed
from throughline.net.deeds import check_deed

DEEDS = [
    ("connect", 0, 70, 2, 80), ("listen", 0, 80, 8), ("unlisten", 0, 80), ("accept", 0, 80), ("write", 0, 1, [1, 2]),
    ("read", 0, 1, 9), ("finish", 0, 1), ("abort", 0, 1), ("release", 0, 1), ("restart", 0), ("tick",),
    ("deliver", 0), ("lose", 0), ("copy", 0), ("mark", 0),
]


class DeedsTest(unittest.TestCase):
    def test_each_word_with_the_right_number_of_items(self):
        for deed in DEEDS:
            with self.subTest(deed):
                self.assertIsNone(check_deed(deed))

    def test_one_fewer_and_one_more(self):
        for deed in DEEDS:
            for wrong in (deed[:-1], (*deed, 0), (*deed, None)):
                with self.subTest(wrong), self.assertRaises(InvalidDeed):
                    check_deed(wrong)

    def test_each_other_number_of_items(self):
        for deed in DEEDS:
            for count in range(1, 9):
                given = (*deed, 0, 0, 0, 0, 0, 0, 0, 0)[:count]
                with self.subTest(given):
                    if count == len(deed):
                        self.assertIsNone(check_deed(given))
                    else:
                        self.assertRaises(InvalidDeed, check_deed, given)

    def test_unknown_words(self):
        for word in ("", "Tick", "tick ", "ticks", "expire", "expired", "sent", "delivered", "lost", "status", "receive",
                     "find", "take", "peer_of", "fork", "do"):
            for more in range(6):
                with self.subTest(word), self.assertRaises(InvalidDeed):
                    check_deed((word, *[0] * more))

    def test_the_empty_tuple(self):
        self.assertRaises(InvalidDeed, check_deed, ())

    def test_the_items_are_not_looked_at(self):
        self.assertIsNone(check_deed(("deliver", -5)))
        self.assertIsNone(check_deed(("restart", 99)))
        self.assertIsNone(check_deed(("listen", 0, 0, 0)))


if __name__ == "__main__":
    unittest.main()
