import unittest

from throughline.wire.segment import Segment

WHOLE = dict(source=11, target=12, seq=13, count=14, echo=15, ack=16, syn=True, fin=True, reset=True, marked=True,
             cut=True, window=17, mss=18, scale=9, ranges_known=True, ranges=[(20, 21), (22, 23)], stamp=(24, 25),
             data=[26, 27, 28])
OTHER = dict(source=1, target=1, seq=1, count=1, echo=None, ack=None, syn=False, fin=False, reset=False, marked=False,
             cut=False, window=1, mss=None, scale=None, ranges_known=False, ranges=[(20, 21)], stamp=None,
             data=[26, 27])


class SegmentTest(unittest.TestCase):
    def test_the_fields_have_the_names_of_the_parameters(self):
        segment = Segment(**WHOLE)
        for name, value in WHOLE.items():
            with self.subTest(name):
                self.assertEqual(getattr(segment, name), value)
                self.assertIs(getattr(segment, name).__class__, value.__class__)

    def test_source_and_target_are_the_first_arguments(self):
        segment = Segment(5, 6, seq=7, count=8)
        self.assertEqual((segment.source, segment.target, segment.seq, segment.count), (5, 6, 7, 8))

    def test_the_other_parts_are_passed_by_name(self):
        with self.assertRaises(TypeError):
            Segment(5, 6, 7, 8)

    def test_the_defaults(self):
        segment = Segment(5, 6, seq=7, count=8)
        for name in ("echo", "ack", "mss", "scale", "stamp"):
            with self.subTest(name):
                self.assertIsNone(getattr(segment, name))
        for name in ("syn", "fin", "reset", "marked", "cut", "ranges_known"):
            with self.subTest(name):
                self.assertIs(getattr(segment, name), False)
        self.assertEqual(segment.window, 0)
        self.assertEqual(segment.ranges, [])
        self.assertEqual(segment.data, [])

    def test_the_defaults_are_lists_of_their_own(self):
        first = Segment(5, 6, seq=7, count=8)
        first.ranges.append((1, 2))
        first.data.append(3)
        second = Segment(5, 6, seq=7, count=8)
        self.assertEqual((second.ranges, second.data), ([], []))

    def test_ranges_and_data_are_new_lists(self):
        for kind in (list, tuple):
            with self.subTest(kind):
                ranges, data = kind([(1, 2), (5, 7)]), kind([8, 9])
                segment = Segment(5, 6, seq=7, count=8, ranges=ranges, data=data)
                self.assertIs(segment.ranges.__class__, list)
                self.assertIs(segment.data.__class__, list)
                self.assertIsNot(segment.ranges, ranges)
                self.assertIsNot(segment.data, data)
                self.assertEqual((segment.ranges, segment.data), ([(1, 2), (5, 7)], [8, 9]))
                segment.ranges.append((9, 10))
                segment.data.append(10)
                self.assertEqual((ranges, data), (kind([(1, 2), (5, 7)]), kind([8, 9])))

    def test_lists_that_were_handed_in_can_change_later(self):
        ranges, data = [(1, 2)], [8, 9]
        segment = Segment(5, 6, seq=7, count=8, ranges=ranges, data=data)
        ranges.clear()
        data[0] = 0
        self.assertEqual((segment.ranges, segment.data), ([(1, 2)], [8, 9]))

    def test_the_size(self):
        for many in (0, 1, 5):
            for syn in (False, True):
                for fin in (False, True):
                    with self.subTest(many=many, syn=syn, fin=fin):
                        segment = Segment(5, 6, seq=7, count=8, syn=syn, fin=fin, data=[0] * many)
                        self.assertEqual(segment.size, many + (1 if syn else 0) + (1 if fin else 0))

    def test_other_parts_do_not_count_for_the_size(self):
        segment = Segment(5, 6, seq=7, count=8, ack=1, reset=True, marked=True, cut=True, window=9, mss=1, scale=1,
                          ranges_known=True, ranges=[(1, 2)], stamp=(1, 2), echo=3)
        self.assertEqual(segment.size, 0)

    def test_segments_with_equal_parts_are_equal(self):
        self.assertTrue(Segment(**WHOLE) == Segment(**WHOLE))
        self.assertFalse(Segment(**WHOLE) != Segment(**WHOLE))
        self.assertTrue(Segment(1, 2, seq=3, count=4) == Segment(1, 2, seq=3, count=4, ranges=[], data=()))

    def test_a_segment_with_another_part_is_another_one(self):
        for name, value in OTHER.items():
            with self.subTest(name):
                other = Segment(**{**WHOLE, name: value})
                self.assertFalse(Segment(**WHOLE) == other)
                self.assertTrue(Segment(**WHOLE) != other)

    def test_none_is_not_0(self):
        for name in ("echo", "ack", "mss", "scale"):
            with self.subTest(name):
                self.assertFalse(Segment(1, 2, seq=3, count=4) == Segment(1, 2, seq=3, count=4, **{name: 0}))

    def test_a_segment_is_not_equal_to_any_other_value(self):
        for value in (None, 0, "segment", [], tuple(WHOLE.values()), WHOLE, object()):
            self.assertFalse(Segment(**WHOLE) == value)
            self.assertTrue(Segment(**WHOLE) != value)
            self.assertFalse(value == Segment(**WHOLE))


if __name__ == "__main__":
    unittest.main()
