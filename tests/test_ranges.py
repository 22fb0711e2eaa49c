import itertools
import unittest

from throughline.offsets.ranges import (
    add_range, contains, count_inside, cut_below, first_free, free_stop, loss_edge, total)

WIDTH = 9
ALL_SETS = [[at for at in range(WIDTH) if bits >> at & 1] for bits in range(2 ** WIDTH)]


def ranges_of(offsets):
    """The list of ranges of a set, offset by offset."""
    found = []
    for offset in sorted(offsets):
        if found and found[-1][1] == offset:
            found[-1] = (found[-1][0], offset + 1)
        else:
            found.append((offset, offset + 1))
    return found


class AddingTest(unittest.TestCase):
    def check(self, ranges, start, stop, expected):
        given = list(ranges)
        self.assertEqual(add_range(given, start, stop), expected)
        self.assertEqual(given, ranges)

    def test_to_the_empty_set(self):
        self.check([], 3, 5, [(3, 5)])
        self.check([], 0, 1, [(0, 1)])

    def test_ranges_apart(self):
        self.check([(10, 20)], 3, 5, [(3, 5), (10, 20)])
        self.check([(10, 20)], 30, 50, [(10, 20), (30, 50)])
        self.check([(1, 2), (10, 20)], 4, 6, [(1, 2), (4, 6), (10, 20)])
        self.check([(10, 20)], 3, 9, [(3, 9), (10, 20)])
        self.check([(10, 20)], 21, 22, [(10, 20), (21, 22)])

    def test_ranges_that_touch(self):
        self.check([(10, 20)], 3, 10, [(3, 20)])
        self.check([(10, 20)], 20, 25, [(10, 25)])
        self.check([(10, 20), (25, 30)], 20, 25, [(10, 30)])

    def test_ranges_that_overlap(self):
        self.check([(10, 20)], 5, 15, [(5, 20)])
        self.check([(10, 20)], 15, 25, [(10, 25)])

    def test_ranges_inside_one_another(self):
        self.check([(10, 20)], 12, 15, [(10, 20)])
        self.check([(10, 20)], 10, 20, [(10, 20)])
        self.check([(10, 20)], 5, 25, [(5, 25)])

    def test_several_are_joined(self):
        self.check([(1, 3), (5, 7), (9, 11), (20, 30)], 2, 10, [(1, 11), (20, 30)])
        self.check([(1, 3), (5, 7), (9, 11)], 0, 50, [(0, 50)])
        self.check([(1, 3), (5, 7), (9, 11), (13, 15)], 3, 9, [(1, 11), (13, 15)])

    def test_nothing_is_added_if_stop_is_not_greater_than_start(self):
        for start, stop in ((5, 5), (15, 15), (20, 20), (30, 5), (6, 5), (25, 9)):
            self.check([(10, 20)], start, stop, [(10, 20)])
            self.check([], start, stop, [])

    def test_each_range_to_each_set(self):
        for offsets in ALL_SETS:
            ranges = ranges_of(offsets)
            for start, stop in itertools.product(range(WIDTH + 2), repeat=2):
                self.check(ranges, start, stop, ranges_of(set(offsets) | set(range(start, stop))))


class CuttingTest(unittest.TestCase):
    def check(self, ranges, limit, expected):
        given = list(ranges)
        self.assertEqual(cut_below(given, limit), expected)
        self.assertEqual(given, ranges)

    def test_below_the_first_range(self):
        self.check([(10, 20), (30, 40)], 5, [(10, 20), (30, 40)])
        self.check([(10, 20), (30, 40)], 0, [(10, 20), (30, 40)])

    def test_at_the_edges_of_a_range(self):
        self.check([(10, 20), (30, 40)], 10, [(10, 20), (30, 40)])
        self.check([(10, 20), (30, 40)], 20, [(30, 40)])
        self.check([(10, 20), (30, 40)], 30, [(30, 40)])

    def test_inside_a_range(self):
        self.check([(10, 20), (30, 40)], 11, [(11, 20), (30, 40)])
        self.check([(10, 20), (30, 40)], 19, [(19, 20), (30, 40)])
        self.check([(10, 20), (30, 40)], 35, [(35, 40)])

    def test_above_all(self):
        self.check([(10, 20), (30, 40)], 40, [])
        self.check([(10, 20), (30, 40)], 99, [])
        self.check([], 5, [])

    def test_each_limit_for_each_set(self):
        for offsets in ALL_SETS:
            for limit in range(WIDTH + 2):
                self.check(ranges_of(offsets), limit, ranges_of([at for at in offsets if at >= limit]))


class AskingTest(unittest.TestCase):
    def test_contains(self):
        for offset, inside in ((0, False), (9, False), (10, True), (19, True), (20, False), (25, False), (30, True),
                               (39, True), (40, False), (99, False)):
            self.assertIs(contains([(10, 20), (30, 40)], offset), inside)
        self.assertIs(contains([], 0), False)

    def test_count_inside(self):
        ranges = [(10, 20), (30, 40)]
        for start, stop, many in ((0, 10, 0), (0, 11, 1), (0, 99, 20), (15, 35, 10), (20, 30, 0), (10, 20, 10),
                                  (12, 13, 1), (19, 31, 2), (40, 99, 0), (39, 99, 1)):
            self.assertEqual(count_inside(ranges, start, stop), many)
        self.assertEqual(count_inside([], 0, 99), 0)

    def test_count_inside_is_0_if_stop_is_not_greater_than_start(self):
        for start, stop in ((15, 15), (16, 15), (35, 15), (99, 0), (20, 10), (40, 30), (10, 10)):
            self.assertEqual(count_inside([(10, 20), (30, 40)], start, stop), 0)

    def test_total(self):
        self.assertEqual(total([]), 0)
        self.assertEqual(total([(10, 20)]), 10)
        self.assertEqual(total([(0, 1), (10, 20), (30, 45)]), 26)

    def test_first_free(self):
        for start, free in ((0, 0), (9, 9), (10, 20), (15, 20), (19, 20), (20, 20), (25, 25), (30, 40), (39, 40),
                            (40, 40), (99, 99)):
            self.assertEqual(first_free([(10, 20), (30, 40)], start), free)
        self.assertEqual(first_free([], 7), 7)

    def test_free_stop(self):
        ranges = [(10, 20), (30, 40)]
        for start, stop, end in ((0, 99, 10), (0, 10, 10), (0, 9, 9), (0, 11, 10), (9, 99, 10), (20, 99, 30),
                                 (25, 28, 28), (40, 99, 99), (39, 99, 99), (19, 99, 30), (19, 25, 25),
                                 (10, 99, 11), (15, 99, 16), (15, 16, 16), (18, 99, 19), (29, 30, 30)):
            self.assertEqual(free_stop(ranges, start, stop), end)
        self.assertEqual(free_stop([], 7, 9), 9)

    def test_loss_edge(self):
        ranges = [(10, 13), (20, 22)]
        for amount, edge in ((0, 21), (1, 20), (2, 12), (3, 11), (4, 10), (5, 0), (6, 0), (99, 0)):
            self.assertEqual(loss_edge(ranges, amount), edge)
        for amount in (0, 1, 2):
            self.assertEqual(loss_edge([], amount), 0)
        self.assertEqual(loss_edge([(0, 2)], 1), 0)
        self.assertEqual(loss_edge([(0, 2)], 0), 1)

    def test_each_question_for_each_set(self):
        for offsets in ALL_SETS:
            ranges = ranges_of(offsets)
            given = list(ranges)
            inside = set(offsets)
            self.assertEqual(total(ranges), len(offsets))
            for amount in range(WIDTH + 2):
                edges = [at for at in offsets if len([x for x in offsets if x >= at]) > amount]
                edge = loss_edge(ranges, amount)
                self.assertEqual(edge, max(edges, default=0))
                for offset in range(WIDTH + 2):
                    if offset not in inside:
                        self.assertEqual(len([x for x in offsets if x > offset]) > amount, offset < edge)
            for start in range(WIDTH + 2):
                self.assertIs(contains(ranges, start), start in inside)
                self.assertEqual(first_free(ranges, start),
                                 min(at for at in range(start, WIDTH + 9) if at not in inside))
                for stop in range(WIDTH + 2):
                    self.assertEqual(count_inside(ranges, start, stop), len(inside & set(range(start, stop))))
                    if stop > start:
                        self.assertEqual(free_stop(ranges, start, stop),
                                         min([at for at in offsets if at > start] + [stop]))
            self.assertEqual(ranges, given)


class ListsTest(unittest.TestCase):
    def test_the_list_that_is_returned_is_new(self):
        ranges = [(10, 20), (30, 40)]
        for found in (add_range(ranges, 5, 5), add_range(ranges, 12, 13), add_range(ranges, 50, 60),
                      cut_below(ranges, 0), cut_below(ranges, 10), cut_below(ranges, 15)):
            self.assertIsNot(found, ranges)
            found.clear()
            self.assertEqual(ranges, [(10, 20), (30, 40)])
        empty = []
        for found in (add_range(empty, 5, 5), cut_below(empty, 0)):
            found.append((1, 2))
            self.assertEqual(empty, [])

    def test_ranges_are_pairs(self):
        for pair in add_range([(10, 20)], 20, 30) + cut_below([(10, 20)], 15):
            self.assertIs(pair.__class__, tuple)


if __name__ == "__main__":
    unittest.main()
