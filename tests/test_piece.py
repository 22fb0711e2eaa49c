import unittest

from throughline.offsets.piece import Piece

WHOLE = dict(start=5, data=[1, 2, 3], syn=True, fin=True, reset=True, ack=6, window=7, ranges=[(8, 9), (11, 12)],
             marked=True, cut=True, stamp=(13, 14))
OTHER = dict(start=6, data=[1, 2], syn=False, fin=False, reset=False, ack=None, window=8, ranges=[(8, 9)],
             marked=False, cut=False, stamp=None)


class PieceTest(unittest.TestCase):
    def test_the_fields_have_the_names_of_the_parameters(self):
        piece = Piece(**WHOLE)
        for name, value in WHOLE.items():
            with self.subTest(name):
                self.assertEqual(getattr(piece, name), value)
                self.assertIs(getattr(piece, name).__class__, value.__class__)

    def test_the_defaults(self):
        piece = Piece(9)
        self.assertEqual((piece.start, piece.data, piece.ranges, piece.window), (9, [], [], 0))
        for name in ("syn", "fin", "reset", "marked", "cut"):
            self.assertIs(getattr(piece, name), False)
        self.assertIsNone(piece.ack)
        self.assertIsNone(piece.stamp)

    def test_only_the_start_is_passed_by_position(self):
        with self.assertRaises(TypeError):
            Piece(9, [1])

    def test_the_defaults_are_lists_of_their_own(self):
        first = Piece(9)
        first.data.append(1)
        first.ranges.append((1, 2))
        self.assertEqual((Piece(9).data, Piece(9).ranges), ([], []))

    def test_data_and_ranges_are_new_lists(self):
        for kind in (list, tuple):
            data, ranges = kind([1, 2]), kind([(3, 4)])
            piece = Piece(9, data=data, ranges=ranges)
            self.assertIs(piece.data.__class__, list)
            self.assertIs(piece.ranges.__class__, list)
            self.assertEqual((piece.data, piece.ranges), ([1, 2], [(3, 4)]))
            piece.data.append(5)
            piece.ranges.append((6, 7))
            self.assertEqual((data, ranges), (kind([1, 2]), kind([(3, 4)])))

    def test_lists_that_were_handed_in_can_change_later(self):
        data, ranges = [1, 2], [(3, 4)]
        piece = Piece(9, data=data, ranges=ranges)
        data.clear()
        ranges.append((5, 6))
        self.assertEqual((piece.data, piece.ranges), ([1, 2], [(3, 4)]))

    def test_size_stop_and_first_octet(self):
        for start in (0, 1, 1000):
            for many in (0, 1, 5):
                for syn in (False, True):
                    for fin in (False, True):
                        piece = Piece(start, data=[0] * many, syn=syn, fin=fin)
                        size = many + (1 if syn else 0) + (1 if fin else 0)
                        self.assertEqual(piece.size, size)
                        self.assertEqual(piece.stop, start + size)
                        self.assertEqual(piece.first_octet, start + 1 if syn else start)

    def test_other_fields_do_not_count_for_the_size(self):
        piece = Piece(4, reset=True, ack=9, window=9, ranges=[(1, 2)], marked=True, cut=True, stamp=(1, 2))
        self.assertEqual((piece.size, piece.stop, piece.first_octet), (0, 4, 4))

    def test_pieces_with_equal_fields_are_equal(self):
        self.assertTrue(Piece(**WHOLE) == Piece(**WHOLE))
        self.assertFalse(Piece(**WHOLE) != Piece(**WHOLE))
        self.assertTrue(Piece(3, data=(1,), ranges=((1, 2),)) == Piece(3, data=[1], ranges=[(1, 2)]))

    def test_a_piece_with_another_field_is_another_one(self):
        for name, value in OTHER.items():
            with self.subTest(name):
                self.assertFalse(Piece(**WHOLE) == Piece(**{**WHOLE, name: value}))
                self.assertTrue(Piece(**WHOLE) != Piece(**{**WHOLE, name: value}))
        self.assertFalse(Piece(3) == Piece(3, ack=0))

    def test_a_piece_is_not_equal_to_another_value(self):
        for value in (None, 5, [], WHOLE, tuple(WHOLE.values()), "piece"):
            self.assertFalse(Piece(**WHOLE) == value)
            self.assertTrue(Piece(**WHOLE) != value)


if __name__ == "__main__":
    unittest.main()
