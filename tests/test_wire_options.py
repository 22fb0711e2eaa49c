import unittest

from throughline.errors import DamagedSegment
from throughline.wire.options import fitted, read_options, write_options
from throughline.wire.segment import Segment

COUNT = [253, 8, 83, 85, 0, 0, 0, 4]
MISSING = {"mss": None, "scale": None, "ranges_known": False, "ranges": [], "stamp": None, "count": None,
           "echo": None}


def number(value):
    return [value >> 24, value >> 16 & 255, value >> 8 & 255, value & 255]


def made(**parts):
    return Segment(1, 2, **{"seq": 3, "count": 4, **parts})


def pairs(many):
    return [(1000 * k + 1, 1000 * k + 2) for k in range(1, many + 1)]


def ranges_option(ranges):
    octets = []
    for first, second in ranges:
        octets += number(first) + number(second)
    return [5, len(octets) + 2] + octets


def filled(octets):
    return octets + [0] * (-len(octets) % 4)


class WritingTest(unittest.TestCase):
    def check(self, expected, **parts):
        self.assertEqual(write_options(made(**parts)), expected)

    def test_the_count_is_always_written(self):
        self.check(COUNT)
        self.check([253, 8, 83, 85, 255, 254, 253, 252], count=0xFFFEFDFC)
        self.check([253, 8, 83, 85, 0, 0, 0, 0], count=0)

    def test_the_echo_stands_behind_the_count(self):
        self.check([253, 12, 83, 85, 0, 0, 0, 4, 1, 2, 3, 4], echo=0x01020304)
        self.check([253, 12, 83, 85, 0, 0, 0, 4, 0, 0, 0, 0], echo=0)

    def test_the_greatest_octets_in_a_piece(self):
        self.check([2, 4, 5, 180] + COUNT, mss=1460)
        self.check([2, 4, 0, 0] + COUNT, mss=0)
        self.check([2, 4, 255, 255] + COUNT, mss=65535)

    def test_the_scale(self):
        self.check([3, 3, 9] + COUNT + [0], scale=9)
        self.check([3, 3, 0] + COUNT + [0], scale=0)
        self.check([3, 3, 14] + COUNT + [0], scale=14)

    def test_that_ranges_are_known(self):
        self.check([4, 2] + COUNT + [0, 0], ranges_known=True)

    def test_the_stamp(self):
        self.check([8, 10] + number(0x0A0B0C0D) + number(4294967295) + COUNT + [0, 0], stamp=(0x0A0B0C0D, 4294967295))
        self.check([8, 10] + [0] * 8 + COUNT + [0, 0], stamp=(0, 0))

    def test_the_ranges(self):
        self.check(COUNT + ranges_option([(7, 4294967295)]) + [0, 0], ranges=[(7, 4294967295)])
        self.check(COUNT + ranges_option([(9, 8), (7, 6)]) + [0, 0], ranges=[(9, 8), (7, 6)])

    def test_all_options_in_their_order(self):
        self.check(filled([2, 4, 2, 24, 3, 3, 1, 4, 2, 253, 12, 83, 85] + number(4) + number(6)
                          + ranges_option([(1001, 1002), (2001, 2002)])),
                   mss=536, scale=1, ranges_known=True, echo=6, ranges=pairs(4))
        self.check(filled([2, 4, 2, 24, 3, 3, 1, 4, 2, 8, 10] + number(70) + number(80)
                          + [253, 12, 83, 85] + number(4) + number(6)),
                   mss=536, scale=1, ranges_known=True, stamp=(70, 80), echo=6, ranges=pairs(4))

    def test_the_octets_0_fill_up_whole_words_of_4(self):
        for parts in ({}, {"mss": 9}, {"scale": 9}, {"ranges_known": True}, {"scale": 3, "ranges_known": True},
                      {"stamp": (1, 2)}, {"stamp": (1, 2), "scale": 1}, {"echo": 1, "ranges": pairs(2)}):
            self.assertEqual(len(write_options(made(**parts))) % 4, 0)
        self.check([3, 3, 1, 4, 2] + COUNT + [0, 0, 0], scale=1, ranges_known=True)

    def test_the_segment_is_not_changed(self):
        segment = made(mss=1, scale=2, stamp=(1, 2), ranges=pairs(5), data=[1, 2])
        write_options(segment)
        self.assertEqual(segment, made(mss=1, scale=2, stamp=(1, 2), ranges=pairs(5), data=[1, 2]))
        octets = write_options(segment)
        write_options(segment).append(1)
        self.assertEqual(write_options(segment), octets)


# The parts of a segment, and how many ranges fit beside them: (38 - p) // 8.
FITS = [
    ({}, 3),
    ({"echo": 1}, 3),
    ({"mss": 1}, 3),
    ({"scale": 1}, 3),
    ({"ranges_known": True}, 3),
    ({"mss": 1, "ranges_known": True}, 3),
    ({"mss": 1, "scale": 1}, 2),
    ({"mss": 1, "echo": 1}, 2),
    ({"echo": 1, "ranges_known": True}, 3),
    ({"echo": 1, "scale": 1}, 2),
    ({"stamp": (1, 2)}, 2),
    ({"stamp": (1, 2), "mss": 1}, 2),
    ({"stamp": (1, 2), "mss": 1, "scale": 1}, 1),
    ({"stamp": (1, 2), "echo": 1}, 2),
    ({"stamp": (1, 2), "echo": 1, "ranges_known": True}, 1),
    ({"stamp": (1, 2), "echo": 1, "mss": 1, "scale": 1}, 1),
    ({"stamp": (1, 2), "echo": 1, "mss": 1, "scale": 1, "ranges_known": True}, 0),
]


class FittingTest(unittest.TestCase):
    def test_as_many_ranges_as_fit_are_kept(self):
        for parts, many in FITS:
            for given in range(7):
                with self.subTest(parts, given=given):
                    kept = pairs(given)[:many]
                    self.assertEqual(fitted(made(ranges=pairs(given), **parts)), made(ranges=kept, **parts))

    def test_only_ranges_that_fit_are_written(self):
        for parts, many in FITS:
            alone = write_options(made(**parts))
            for given in range(7):
                with self.subTest(parts, given=given):
                    octets = write_options(made(ranges=pairs(given), **parts))
                    self.assertLessEqual(len(octets), 40)
                    self.assertEqual(read_options(octets)["ranges"], pairs(given)[:many])
                    self.assertEqual(octets, write_options(made(ranges=pairs(given)[:many], **parts)))
                    if given == 0 or many == 0:
                        self.assertEqual(octets, alone)

    def test_all_other_parts_stay(self):
        whole = dict(seq=13, count=14, echo=15, ack=16, syn=True, fin=True, reset=True, marked=True, cut=True,
                     window=17, scale=9, ranges_known=True, ranges=pairs(1), data=[26, 27, 28])
        self.assertEqual(fitted(Segment(11, 12, **whole)), Segment(11, 12, **whole))
        whole.update(mss=18, stamp=(24, 25), ranges=[])
        self.assertEqual(fitted(Segment(11, 12, **whole)), Segment(11, 12, **whole))

    def test_the_fitted_segment_is_a_new_one(self):
        for ranges in ([], pairs(1), pairs(3), pairs(9)):
            segment = made(ranges=ranges, data=[1, 2])
            found = fitted(segment)
            self.assertIsNot(found, segment)
            found.ranges.append((1, 2))
            found.data.append(3)
            self.assertEqual(segment, made(ranges=ranges, data=[1, 2]))

    def test_a_fitted_segment_is_fitted_already(self):
        for parts, many in FITS:
            segment = fitted(made(ranges=pairs(6), **parts))
            self.assertEqual(fitted(segment), segment)


class ReadingTest(unittest.TestCase):
    def check(self, octets, **expected):
        found = read_options(octets)
        self.assertEqual(found, {**MISSING, **expected})
        self.assertEqual(list(found), list(MISSING))

    def refuse(self, octets):
        with self.assertRaises(DamagedSegment) as caught:
            read_options(octets)
        self.assertEqual(caught.exception.reason, "wrong options")

    def test_no_options(self):
        self.check([])

    def test_the_keys_stand_in_their_order(self):
        self.assertEqual(list(read_options(COUNT + [2, 4, 1, 2])),
                         ["mss", "scale", "ranges_known", "ranges", "stamp", "count", "echo"])

    def test_each_option_alone(self):
        self.check([2, 4, 5, 180], mss=1460)
        self.check([2, 4, 0, 0], mss=0)
        self.check([3, 3, 7], scale=7)
        self.check([3, 3, 0], scale=0)
        self.check([4, 2], ranges_known=True)
        self.check([8, 10, 0, 0, 1, 0, 255, 255, 255, 254], stamp=(256, 4294967294))
        self.check([8, 10] + [0] * 8, stamp=(0, 0))
        self.check([253, 8, 83, 85, 1, 2, 3, 4], count=0x01020304)
        self.check([253, 8, 83, 85, 0, 0, 0, 0], count=0)
        self.check([253, 12, 83, 85, 0, 0, 0, 4, 0, 0, 0, 5], count=4, echo=5)
        self.check([253, 12, 83, 85] + [0] * 8, count=0, echo=0)

    def test_one_to_four_ranges(self):
        for many in (1, 2, 3, 4):
            self.check(ranges_option(pairs(many)), ranges=pairs(many))
        self.check(ranges_option([(9, 9), (5, 4294967295)]), ranges=[(9, 9), (5, 4294967295)])

    def test_ranges_are_pairs_in_a_list(self):
        found = read_options(ranges_option(pairs(2)) + [8, 10] + [0] * 8)
        self.assertIs(found["ranges"].__class__, list)
        self.assertEqual({pair.__class__ for pair in found["ranges"]}, {tuple})
        self.assertIs(found["stamp"].__class__, tuple)
        self.assertIs(read_options([])["ranges"].__class__, list)

    def test_flags_are_true_or_false(self):
        self.assertIs(read_options([4, 2])["ranges_known"], True)
        self.assertIs(read_options([])["ranges_known"], False)

    def test_a_scale_above_14_is_read_as_14(self):
        for scale in (13, 14, 15, 16, 255):
            self.check([3, 3, scale], scale=min(scale, 14))

    def test_fillers(self):
        self.check([1])
        self.check([1] * 40)
        self.check([1, 1, 4, 2, 1, 3, 3, 7, 1], ranges_known=True, scale=7)

    def test_kind_0_ends_the_options(self):
        self.check([0])
        self.check([0] * 40)
        self.check([4, 2, 0, 0], ranges_known=True)
        self.check([4, 2, 1, 0, 0, 0], ranges_known=True)

    def test_only_octets_0_may_stand_behind_kind_0(self):
        for behind in ([1], [4, 2], [0, 0, 1], [255], [0, 1, 0], [2, 4, 5, 180]):
            self.refuse([0] + behind)
            self.refuse([4, 2, 0] + behind)

    def test_other_kinds_are_skipped(self):
        for kind in (6, 7, 9, 10, 30, 252, 254, 255):
            for body in ([], [1], [0, 0], [83, 85], [9] * 20):
                option = [kind, len(body) + 2] + body
                self.check(option)
                self.check([4, 2] + option + [3, 3, 7], ranges_known=True, scale=7)
                self.check(option + option + [0])

    def test_kind_253_with_another_beginning_is_skipped(self):
        for body in ([], [83], [85], [83, 84], [84, 85], [85, 83], [83, 84, 0, 0, 0, 4], [82, 85, 1, 2, 3, 4, 5, 6, 7, 8],
                     [0, 83, 85, 0, 0, 0], [9] * 30):
            option = [253, len(body) + 2] + body
            self.check(option)
            self.check(option + COUNT, count=4)
            self.check(COUNT + option + option, count=4)

    def test_a_size_below_2_is_refused(self):
        for kind in (2, 3, 4, 5, 8, 6, 99, 253):
            for size in (0, 1):
                self.refuse([kind, size])
                self.refuse([kind, size, 0, 0, 0, 0, 0, 0, 0, 0])
                self.refuse(COUNT + [kind, size, 1, 1])

    def test_a_missing_size_is_refused(self):
        for kind in (2, 3, 4, 5, 8, 6, 99, 253, 255):
            self.refuse([kind])
            self.refuse([4, 2, 1, kind] if kind != 4 else [1, kind])
            self.refuse(COUNT + [kind])

    def test_a_body_that_is_cut_off_is_refused(self):
        options = [[2, 4, 1, 2], [3, 3, 1], [8, 10] + [1] * 8, COUNT, [253, 12, 83, 85] + [1] * 8,
                   [77, 6, 1, 2, 3, 4], [253, 4, 9, 9]] + [ranges_option(pairs(many)) for many in (1, 2, 3, 4)]
        for option in options:
            read_options(option)
            for end in range(2, len(option)):
                self.refuse(option[:end])
                self.refuse([1, 1] + option[:end])
        self.refuse([4, 3])
        self.refuse([77, 255])

    def test_a_body_of_a_wrong_length_is_refused(self):
        lengths = {2: [2], 3: [1], 4: [0], 5: [8, 16, 24, 32], 8: [8]}
        for kind, right in lengths.items():
            for length in range(42):
                option = [kind, length + 2] + [3] * length
                if length in right:
                    read_options(option)
                else:
                    self.refuse(option)
                    self.refuse(COUNT + option)

    def test_a_count_of_a_wrong_length_is_refused(self):
        for length in range(2, 42):
            option = [253, length + 2, 83, 85] + [3] * (length - 2)
            if length in (6, 10):
                read_options(option)
            else:
                self.refuse(option)

    def test_an_option_twice_is_refused(self):
        options = [[2, 4, 1, 2], [3, 3, 1], [4, 2], ranges_option(pairs(1)), [8, 10] + [1] * 8, COUNT,
                   [253, 12, 83, 85] + [1] * 8]
        for option in options:
            self.refuse(option + option)
            self.refuse(option + [1, 77, 2] + option)
        self.refuse(COUNT + [253, 12, 83, 85] + [1] * 8)
        self.refuse(ranges_option(pairs(1)) + ranges_option(pairs(2)))
        self.refuse([2, 4, 1, 2, 2, 4, 3, 4])

    def test_the_order_does_not_matter(self):
        options = [[2, 4, 2, 24], [3, 3, 1], [4, 2], [8, 10, 0, 0, 0, 70, 0, 0, 0, 80],
                   [253, 12, 83, 85, 0, 0, 0, 4, 0, 0, 0, 5], ranges_option(pairs(2)), [77, 3, 1], [1]]
        expected = dict(mss=536, scale=1, ranges_known=True, stamp=(70, 80), count=4, echo=5, ranges=pairs(2))
        for turn in range(len(options)):
            turned = options[turn:] + options[:turn]
            self.check(sum(turned, []), **expected)
            self.check(sum(reversed(turned), []) + [0, 0], **expected)

    def test_the_octets_are_not_changed(self):
        octets = COUNT + ranges_option(pairs(2)) + [0, 0]
        before = list(octets)
        read_options(octets)
        self.assertEqual(octets, before)
        octets = COUNT + [3]
        self.refuse(octets)
        self.assertEqual(octets, COUNT + [3])

    def test_the_dict_and_the_list_are_new(self):
        octets = COUNT + ranges_option(pairs(2))
        read_options(octets)["ranges"].clear()
        read_options(octets)["count"] = 0
        self.assertEqual(read_options(octets), {**MISSING, "count": 4, "ranges": pairs(2)})
        read_options([])["ranges"].append((1, 2))
        self.check([])

    def test_what_was_written_is_read(self):
        for parts, many in FITS:
            segment = made(ranges=pairs(many), **parts)
            self.check(write_options(segment), count=4, ranges=pairs(many), **parts)


if __name__ == "__main__":
    unittest.main()
