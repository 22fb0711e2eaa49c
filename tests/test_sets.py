import itertools
import random
import unittest

from throughline.offsets.sets import OffsetSet


class OffsetSetTest(unittest.TestCase):
    def test_a_new_set_is_empty(self):
        offsets = OffsetSet()
        self.assertEqual(list(offsets), [])
        self.assertEqual(offsets.total, 0)
        self.assertFalse(0 in offsets)

    def test_pairs_in_any_order(self):
        pairs = [(1, 4), (6, 8), (10, 11), (20, 25)]
        for order in itertools.permutations(pairs):
            self.assertEqual(list(OffsetSet(list(order))), pairs)

    def test_pairs_that_overlap_or_touch(self):
        for order in itertools.permutations([(1, 4), (3, 6), (6, 8), (10, 20), (12, 13)]):
            self.assertEqual(list(OffsetSet(order)), [(1, 8), (10, 20)])

    def test_pairs_that_are_empty(self):
        self.assertEqual(list(OffsetSet([(5, 5)])), [])
        self.assertEqual(list(OffsetSet([(1, 3), (9, 2), (7, 7), (0, 0)])), [(1, 3)])
        self.assertEqual(list(OffsetSet([(1, 3), (5, 3), (3, 1)])), [(1, 3)])

    def test_the_pairs_are_not_kept(self):
        pairs = [(1, 4), (2, 6)]
        offsets = OffsetSet(pairs)
        self.assertEqual(pairs, [(1, 4), (2, 6)])
        pairs.append((10, 20))
        self.assertEqual(list(offsets), [(1, 6)])
        pairs = [(1, 4)]
        offsets = OffsetSet(pairs)
        offsets.include(6, 7)
        offsets.discard_below(2)
        self.assertEqual(pairs, [(1, 4)])

    def test_two_sets_are_apart(self):
        first, second = OffsetSet(), OffsetSet()
        first.include(1, 2)
        self.assertEqual(list(second), [])
        self.assertEqual(list(OffsetSet()), [])

    def test_including(self):
        offsets = OffsetSet([(10, 20)])
        self.assertIsNone(offsets.include(25, 30))
        self.assertIsNone(offsets.include(20, 21))
        self.assertIsNone(offsets.include(5, 5))
        self.assertIsNone(offsets.include(9, 3))
        self.assertEqual(list(offsets), [(10, 21), (25, 30)])

    def test_discarding(self):
        offsets = OffsetSet([(10, 20), (30, 40)])
        self.assertIsNone(offsets.discard_below(15))
        self.assertEqual(list(offsets), [(15, 20), (30, 40)])
        self.assertIsNone(offsets.discard_below(40))
        self.assertEqual(list(offsets), [])

    def test_questions(self):
        offsets = OffsetSet([(10, 20), (30, 40)])
        self.assertEqual(offsets.total, 20)
        self.assertEqual(offsets.count_between(15, 35), 10)
        self.assertEqual(offsets.count_between(35, 15), 0)
        self.assertEqual(offsets.first_free(5), 5)
        self.assertEqual(offsets.first_free(30), 40)
        self.assertEqual(offsets.free_end(20, 99), 30)
        self.assertEqual(offsets.free_end(20, 25), 25)
        self.assertEqual(offsets.free_end(12, 99), 13)
        self.assertEqual(offsets.loss_edge(0), 39)
        self.assertEqual(offsets.loss_edge(19), 10)
        self.assertEqual(offsets.loss_edge(20), 0)
        self.assertEqual(list(offsets), [(10, 20), (30, 40)])

    def test_in(self):
        offsets = OffsetSet([(10, 20), (30, 40)])
        for offset in (10, 19, 30, 39):
            self.assertTrue(offset in offsets)
            self.assertFalse(offset not in offsets)
        for offset in (0, 9, 20, 29, 40):
            self.assertFalse(offset in offsets)
            self.assertTrue(offset not in offsets)

    def test_iteration_goes_over_pairs(self):
        offsets = OffsetSet([(30, 40), (10, 20)])
        found = []
        for start, stop in offsets:
            found.append((start, stop))
        self.assertEqual(found, [(10, 20), (30, 40)])
        self.assertEqual({pair.__class__ for pair in offsets}, {tuple})
        self.assertEqual(list(offsets), list(offsets))
        list(offsets).clear()
        self.assertEqual(offsets.total, 20)

    def test_a_set_made_of_a_set(self):
        offsets = OffsetSet([(30, 40), (10, 20)])
        other = OffsetSet(offsets)
        self.assertEqual(list(other), [(10, 20), (30, 40)])
        other.include(20, 30)
        self.assertEqual(list(offsets), [(10, 20), (30, 40)])

    def test_sets_with_the_same_offsets_are_equal(self):
        offsets = OffsetSet([(5, 9)])
        other = OffsetSet([(1, 6)])
        self.assertTrue(offsets != other)
        other.include(6, 9)
        self.assertFalse(offsets == other)
        other.discard_below(5)
        self.assertTrue(offsets == other)
        self.assertFalse(offsets != other)
        self.assertTrue(OffsetSet() == OffsetSet([(3, 3)]))

    def test_sets_with_other_offsets_are_not_equal(self):
        for pairs in ([], [(5, 8)], [(5, 10)], [(4, 9)], [(6, 9)], [(5, 7), (8, 9)], [(5, 9), (11, 12)]):
            self.assertFalse(OffsetSet([(5, 9)]) == OffsetSet(pairs))
            self.assertTrue(OffsetSet([(5, 9)]) != OffsetSet(pairs))

    def test_a_set_is_not_equal_to_another_value(self):
        for value in (None, 0, [(5, 9)], ((5, 9),), {5, 6, 7, 8}, "set"):
            self.assertFalse(OffsetSet([(5, 9)]) == value)
            self.assertTrue(OffsetSet([(5, 9)]) != value)
        self.assertFalse(OffsetSet() == [])

    def test_long_rows_of_calls(self):
        draws = random.Random(11)
        for _ in range(60):
            offsets, model = OffsetSet(), set()
            for _ in range(60):
                start, stop = draws.randrange(80), draws.randrange(80)
                if draws.randrange(8) == 0:
                    offsets.discard_below(start)
                    model = {at for at in model if at >= start}
                else:
                    offsets.include(start, min(stop, start + 9))
                    model |= set(range(start, min(stop, start + 9)))
                self.assertEqual({at for low, high in offsets for at in range(low, high)}, model)
                self.assertEqual(offsets.total, len(model))
                self.assertEqual([at for at in range(90) if at in offsets], sorted(model))
                ranges = list(offsets)
                self.assertTrue(all(low < high for low, high in ranges))
                self.assertTrue(all(left[1] < right[0] for left, right in zip(ranges, ranges[1:])))


if __name__ == "__main__":
    unittest.main()
