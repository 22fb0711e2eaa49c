import unittest

from throughline.pace.deadlines import earliest, is_due


class DeadlinesTest(unittest.TestCase):
    def test_no_deadline_is_never_due(self):
        for now in (0, 1, 1000):
            self.assertIs(is_due(None, now), False)

    def test_a_deadline_is_due_from_its_tick_on(self):
        self.assertIs(is_due(5, 4), False)
        self.assertIs(is_due(5, 5), True)
        self.assertIs(is_due(5, 6), True)
        self.assertIs(is_due(0, 0), True)
        self.assertIs(is_due(1, 0), False)

    def test_the_earliest(self):
        self.assertEqual(earliest([7]), 7)
        self.assertEqual(earliest([7, 3, 5]), 3)
        self.assertEqual(earliest([None, 7, None, 9]), 7)
        self.assertEqual(earliest([9, None, 0]), 0)

    def test_there_is_none(self):
        self.assertIsNone(earliest([]))
        self.assertIsNone(earliest([None]))
        self.assertIsNone(earliest([None, None]))

    def test_the_list_is_not_changed(self):
        deadlines = [None, 7, 3, None]
        earliest(deadlines)
        self.assertEqual(deadlines, [None, 7, 3, None])


if __name__ == "__main__":
    unittest.main()
