import unittest

from throughline.net.ledger import Ledger


class LedgerTest(unittest.TestCase):
    def test_a_socket_that_was_never_noted(self):
        ledger = Ledger()
        for _ in range(2):
            self.assertEqual((ledger.written(0, 1), ledger.was_read(0, 1), ledger.has_finished(0, 1)), ([], [], False))
        self.assertEqual(list(ledger), [])

    def test_writes(self):
        ledger = Ledger()
        self.assertIsNone(ledger.note_write(0, 1, [1, 2]))
        ledger.note_write(0, 1, [3])
        ledger.note_write(1, 1, [4])
        ledger.note_write(0, 2, [5])
        self.assertEqual([ledger.written(0, 1), ledger.written(1, 1), ledger.written(0, 2)], [[1, 2, 3], [4], [5]])
        self.assertEqual((ledger.was_read(0, 1), ledger.has_finished(0, 1)), ([], False))

    def test_reads(self):
        ledger = Ledger()
        self.assertIsNone(ledger.note_read(0, 1, [1, 2]))
        ledger.note_read(0, 1, [3])
        ledger.note_read(1, 1, [4])
        ledger.note_read(0, 2, [5])
        self.assertEqual([ledger.was_read(0, 1), ledger.was_read(1, 1), ledger.was_read(0, 2)], [[1, 2, 3], [4], [5]])
        self.assertEqual((ledger.written(0, 1), ledger.has_finished(0, 1)), ([], False))

    def test_finishing(self):
        ledger = Ledger()
        self.assertIsNone(ledger.note_finish(2, 3))
        self.assertIs(ledger.has_finished(2, 3), True)
        self.assertIs(ledger.has_finished(3, 2), False)
        self.assertEqual((ledger.written(2, 3), ledger.was_read(2, 3)), ([], []))
        ledger.note_finish(2, 3)
        self.assertIs(ledger.has_finished(2, 3), True)

    def test_a_write_that_takes_nothing_and_a_read_that_returns_nothing(self):
        ledger = Ledger()
        ledger.note_write(0, 1, [])
        ledger.note_read(0, 2, [])
        self.assertEqual(list(ledger), [(0, 1), (0, 2)])
        self.assertEqual((ledger.written(0, 1), ledger.was_read(0, 2)), ([], []))

    def test_the_order_of_the_pairs(self):
        ledger = Ledger()
        ledger.note_read(3, 1, [1])
        ledger.note_finish(0, 9)
        ledger.note_write(0, 2, [1])
        ledger.note_write(3, 1, [1])
        ledger.note_read(0, 9, [1])
        ledger.note_finish(1, 1)
        self.assertEqual(list(ledger), [(3, 1), (0, 9), (0, 2), (1, 1)])
        self.assertEqual([key for key in ledger], [(3, 1), (0, 9), (0, 2), (1, 1)])

    def test_asking_notes_nothing(self):
        ledger = Ledger()
        ledger.note_write(0, 1, [1])
        ledger.written(5, 5)
        ledger.was_read(5, 5)
        ledger.has_finished(5, 5)
        self.assertEqual(list(ledger), [(0, 1)])

    def test_lists_that_are_changed_later(self):
        ledger = Ledger()
        octets = [1, 2]
        ledger.note_write(0, 1, octets)
        ledger.note_read(0, 1, octets)
        octets.append(3)
        ledger.written(0, 1).append(4)
        ledger.was_read(0, 1).append(5)
        self.assertEqual((ledger.written(0, 1), ledger.was_read(0, 1)), ([1, 2], [1, 2]))
        ledger.note_write(0, 1, [6])
        self.assertEqual((octets, ledger.written(0, 1), ledger.was_read(0, 1)), ([1, 2, 3], [1, 2, 6], [1, 2]))


if __name__ == "__main__":
    unittest.main()
