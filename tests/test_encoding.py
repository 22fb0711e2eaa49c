import random
import unittest

from throughline.errors import DamagedSegment
from throughline.wire.encoding import decode, encode
from throughline.wire.options import fitted
from throughline.wire.segment import Segment

COUNT = [253, 8, 83, 85, 0, 0, 0, 4]


def made(**parts):
    return Segment(1, 2, **{"seq": 3, "count": 4, **parts})


def plain_sum(sender, target, octets):
    total = sender + target + 6 + len(octets)
    return total + sum(octet * (256 if index % 2 == 0 else 1) for index, octet in enumerate(octets))


def sealed(octets, sender=0, target=0):
    """The octets with the right checksum in place."""
    octets = octets[:16] + [0, 0] + octets[18:]
    left = -plain_sum(sender, target, octets) % 65535
    return octets[:16] + [left // 256, left % 256] + octets[18:]


def written(header=(), options=None, data=(), size=None):
    """The octets of a segment, put together by hand; header is pairs of an index and an octet."""
    options = COUNT if options is None else options
    octets = [0, 1, 0, 2, 0, 0, 0, 3, 0, 0, 0, 0, 16 * ((20 + len(options)) // 4), 0, 0, 0, 0, 0, 0, 0]
    octets = octets + options + list(data)
    for index, octet in header:
        octets[index] = octet
    if size is not None:
        octets[12] = 16 * size
    return sealed(octets)


def samples():
    """Segments of many kinds, some with more ranges than fit."""
    draws = random.Random(7)

    def maybe(value):
        return value if draws.randrange(2) else None

    def wire():
        return draws.choice([0, 1, 4294967295, draws.randrange(2 ** 32)])

    for _ in range(300):
        yield Segment(
            draws.choice([1, 65535, draws.randrange(1, 65536)]), draws.choice([1, 65535, draws.randrange(1, 65536)]),
            seq=wire(), count=wire(), echo=maybe(wire()), ack=maybe(wire()), syn=draws.random() < 0.5,
            fin=draws.random() < 0.5, reset=draws.random() < 0.5, marked=draws.random() < 0.5,
            cut=draws.random() < 0.5, window=draws.choice([0, 65535, draws.randrange(65536)]),
            mss=maybe(draws.choice([0, 65535, 1460])), scale=maybe(draws.randrange(15)),
            ranges_known=draws.random() < 0.5, ranges=[(wire(), wire()) for _ in range(draws.randrange(6))],
            stamp=maybe((wire(), wire())), data=[draws.randrange(256) for _ in range(draws.choice([0, 0, 1, 2, 50]))])


class EncodingTest(unittest.TestCase):
    def test_the_least_segment(self):
        self.assertEqual(encode(1, 2, made()),
                         [0, 1, 0, 2, 0, 0, 0, 3, 0, 0, 0, 0, 112, 0, 0, 0, 63, 114, 0, 0] + COUNT)

    def test_a_whole_segment(self):
        segment = Segment(0x0102, 0x0304, seq=0x05060708, ack=0x090A0B0C, syn=True, fin=True, reset=True, marked=True,
                          cut=True, window=0x0D0E, count=4, mss=536, data=[1, 2, 3])
        self.assertEqual(encode(0, 0, segment), sealed(
            [1, 2, 3, 4, 5, 6, 7, 8, 9, 10, 11, 12, 128, 223, 13, 14, 0, 0, 0, 0, 2, 4, 2, 24] + COUNT + [1, 2, 3]))

    def check_field(self, first, stop, octets, **parts):
        """The part changes these octets, and no other ones but the checksum."""
        plain, found = encode(0, 0, made()), encode(0, 0, Segment(**{"source": 1, "target": 2, "seq": 3, "count": 4,
                                                                     **parts}))
        self.assertEqual(found[first:stop], octets)
        expected = plain[:first] + octets + plain[stop:]
        self.assertEqual(found, sealed(expected))

    def test_each_field_alone(self):
        self.check_field(0, 2, [0xAB, 0xCD], source=0xABCD)
        self.check_field(2, 4, [0xAB, 0xCD], target=0xABCD)
        self.check_field(4, 8, [1, 2, 3, 4], seq=0x01020304)
        self.check_field(14, 16, [0xAB, 0xCD], window=0xABCD)
        self.check_field(14, 16, [255, 255], window=65535)
        self.check_field(24, 28, [1, 2, 3, 4], count=0x01020304)

    def test_the_acknowledgement_and_its_flag(self):
        octets = encode(0, 0, made(ack=0x01020304))
        self.assertEqual(octets, sealed(written([(8, 1), (9, 2), (10, 3), (11, 4), (13, 16)])))
        self.assertEqual(encode(0, 0, made(ack=0)), written([(13, 16)]))
        self.assertEqual(encode(0, 0, made())[8:12], [0, 0, 0, 0])

    def test_each_flag_alone(self):
        for name, flag in (("cut", 128), ("marked", 64), ("reset", 4), ("syn", 2), ("fin", 1)):
            with self.subTest(name):
                self.check_field(13, 14, [flag], **{name: True})

    def test_the_flag_of_data(self):
        self.assertEqual(encode(0, 0, made(data=[0])), written([(13, 8)], data=[0]))
        self.assertEqual(encode(0, 0, made(data=[7, 8, 9])), written([(13, 8)], data=[7, 8, 9]))

    def test_the_flags_are_added(self):
        octets = encode(0, 0, made(cut=True, marked=True, ack=0, data=[0], reset=True, syn=True, fin=True))
        self.assertEqual(octets[13], 128 + 64 + 16 + 8 + 4 + 2 + 1)

    def test_the_header_size(self):
        for parts, size in (({}, 28), ({"mss": 1}, 32), ({"scale": 1}, 32), ({"ranges_known": True}, 32),
                            ({"ranges": [(1, 2)] * 3}, 56), ({"stamp": (1, 2), "echo": 1, "ranges": [(1, 2)] * 9}, 60)):
            with self.subTest(parts):
                octets = encode(0, 0, made(data=[255] * 9, **parts))
                self.assertEqual(octets[12], 16 * (size // 4))
                self.assertEqual(octets[size:], [255] * 9)

    def test_the_last_octets_of_the_header_are_0(self):
        for segment in samples():
            self.assertEqual(encode(5, 6, segment)[18:20], [0, 0])

    def test_the_checksum_is_that_of_the_addresses(self):
        segment = made(data=[1, 2, 3])
        for sender, target in ((0, 0), (1, 0), (0, 65535), (65535, 65535)):
            octets = encode(sender, target, segment)
            self.assertEqual(octets, sealed(octets, sender, target))
            self.assertEqual(plain_sum(sender, target, octets) % 65535, 0)

    def test_a_checksum_of_0(self):
        octets = encode(0, 0, made())
        left = octets[16] * 256 + octets[17]
        found = encode(left, 0, made())
        self.assertEqual(found[16:18], [0, 0])
        self.assertEqual(decode(left, 0, found), made())

    def test_written_octets_are_intact(self):
        for segment in samples():
            octets = encode(9, 65535, segment)
            self.assertEqual(plain_sum(9, 65535, octets) % 65535, 0)
            self.assertTrue(all(0 <= octet <= 255 for octet in octets))

    def test_only_ranges_that_fit_are_written(self):
        for segment in samples():
            self.assertEqual(encode(1, 2, segment), encode(1, 2, fitted(segment)))

    def test_the_segment_is_not_changed(self):
        parts = dict(ranges=[(1, 2)] * 9, data=[1, 2, 3], stamp=(1, 2))
        segment = made(**parts)
        encode(1, 2, segment)[:] = []
        self.assertEqual(segment, made(**parts))


class DecodingTest(unittest.TestCase):
    def refuse(self, reason, octets, sender=0, target=0):
        with self.assertRaises(DamagedSegment) as caught:
            decode(sender, target, octets)
        self.assertEqual(caught.exception.reason, reason)

    def test_the_least_segment(self):
        found = decode(0, 0, written())
        self.assertEqual(found, made())
        for name in ("ack", "echo", "mss", "scale", "stamp"):
            self.assertIsNone(getattr(found, name))
        for name in ("syn", "fin", "reset", "marked", "cut", "ranges_known"):
            self.assertIs(getattr(found, name), False)
        self.assertEqual((found.ranges, found.data), ([], []))

    def test_each_field_alone(self):
        for header, parts in (([(0, 1), (1, 2)], {"source": 258}), ([(2, 1), (3, 2)], {"target": 258}),
                              ([(4, 1), (5, 2), (6, 3), (7, 4)], {"seq": 0x01020304}),
                              ([(8, 1), (9, 2), (10, 3), (11, 4), (13, 16)], {"ack": 0x01020304}),
                              ([(13, 16)], {"ack": 0}), ([(14, 1), (15, 2)], {"window": 258})):
            with self.subTest(parts):
                segment = Segment(**{"source": 1, "target": 2, "seq": 3, "count": 4, **parts})
                self.assertEqual(decode(0, 0, written(header)), segment)

    def test_each_flag_alone(self):
        for name, flag in (("cut", 128), ("marked", 64), ("reset", 4), ("syn", 2), ("fin", 1)):
            with self.subTest(name):
                found = decode(0, 0, written([(13, flag)]))
                self.assertEqual(found, made(**{name: True}))
                self.assertIs(getattr(found, name), True)

    def test_the_data_stand_behind_the_header_size(self):
        for data in ([0], [7, 8, 9], [253, 8, 83, 85]):
            self.assertEqual(decode(0, 0, written(data=data)), made(data=data))
            self.assertEqual(decode(0, 0, written(options=[2, 4, 1, 2] + COUNT, data=data)), made(mss=258, data=data))

    def test_the_options(self):
        options = ([2, 4, 1, 2, 3, 3, 20, 4, 2, 253, 12, 83, 85, 0, 0, 0, 4, 0, 0, 0, 9]
                   + [5, 10, 0, 0, 0, 1, 0, 0, 0, 2] + [1, 77, 3, 0, 0])
        self.assertEqual(decode(0, 0, written(options=options)),
                         made(mss=258, scale=14, ranges_known=True, echo=9, ranges=[(1, 2)]))
        options = [8, 10, 0, 0, 0, 1, 0, 0, 0, 2, 0, 0]
        self.assertEqual(decode(0, 0, written(options=COUNT + options)), made(stamp=(1, 2)))

    def test_octets_without_effect(self):
        expected = made(data=[1, 2])
        for header in ([(12, 112 + low)] for low in range(16)):
            self.assertEqual(decode(0, 0, written(header, data=[1, 2])), expected)
        for header in ([(13, 32)], [(13, 8)], [(13, 40)], [(8, 1), (9, 2), (10, 3), (11, 4)], [(18, 255)], [(19, 255)],
                       [(18, 1), (19, 2)]):
            with self.subTest(header):
                self.assertEqual(decode(0, 0, written(header, data=[1, 2])), expected)

    def test_octets_without_effect_count_for_the_checksum(self):
        for index in (8, 11, 18, 19):
            octets = written()
            octets[index] ^= 1
            self.refuse("wrong checksum", octets)
        for bit in (1, 2, 4, 8):
            octets = written()
            octets[12] ^= bit
            self.refuse("wrong checksum", octets)

    def test_too_short(self):
        for many in range(20):
            self.refuse("too short", written()[:many])
            self.refuse("too short", [0] * many)
        # Intact, and too short all the same.
        self.refuse("too short", [], 65529, 0)
        self.refuse("too short", sealed([0] * 19))

    def test_wrong_checksum(self):
        octets = written(data=[1, 2, 3])
        self.refuse("wrong checksum", octets, 1, 0)
        self.refuse("wrong checksum", octets, 0, 65534)
        self.refuse("wrong checksum", [0] * 20)
        self.assertEqual(decode(65535, 0, octets), made(data=[1, 2, 3]))

    def test_wrong_header_size(self):
        for size in range(5):
            self.refuse("wrong header size", written(size=size))
        for size in range(8, 16):
            self.refuse("wrong header size", written(size=size))
        self.refuse("wrong header size", written(size=8, data=[0, 0, 0]))
        # The lower four bits do not count: 79 is 4 words, 95 is 5, 143 is 8.
        self.refuse("wrong header size", written([(12, 79)]))
        self.refuse("wrong header size", written([(12, 143)], data=[0, 0, 0]))
        self.refuse("no count", written([(12, 95)], options=[]))

    def test_a_header_size_that_is_just_right(self):
        self.assertEqual(decode(0, 0, written(size=8, data=[0, 0, 0, 0])), made())
        self.refuse("no count", written(options=[], size=5))

    def test_no_port(self):
        self.refuse("no port", written([(1, 0)]))
        self.refuse("no port", written([(3, 0)]))
        self.refuse("no port", written([(1, 0), (3, 0)]))
        self.refuse("no port", written([(1, 0), (2, 9)]))
        self.refuse("no port", written([(0, 9), (3, 0), (4, 9)]))
        for header in ([(0, 1), (1, 0)], [(2, 1), (3, 0)]):
            decode(0, 0, written(header))

    def test_wrong_options(self):
        for options in ([2, 3, 1, 0], [2, 8, 0, 0], COUNT + [0, 0, 0, 1], COUNT + [1, 1, 1, 7], COUNT + [9, 1, 0, 0],
                        COUNT + COUNT, [5, 3, 0, 0]):
            with self.subTest(options):
                self.refuse("wrong options", written(options=options, data=[0] * 8))

    def test_an_option_does_not_reach_into_the_data(self):
        self.refuse("wrong options", written(options=COUNT + [1, 1, 2, 4], data=[1, 2]))

    def test_no_count(self):
        for options in ([], [0, 0, 0, 0], [2, 4, 1, 2], [253, 8, 83, 86, 0, 0, 0, 4], [253, 3, 83, 0],
                        [254, 8, 83, 85, 0, 0, 0, 4]):
            with self.subTest(options):
                self.refuse("no count", written(options=options, data=COUNT))

    def test_the_first_of_two_reasons(self):
        self.refuse("too short", [0] * 19)
        for size in (4, 9):
            octets = written(size=size)
            octets[19] += 1
            self.refuse("wrong checksum", octets)
            self.refuse("wrong header size", written([(1, 0)], size=size))
            self.refuse("wrong header size", written([(3, 0)], options=[0, 0, 0, 1], size=size))
            self.refuse("wrong header size", written(options=[1, 1, 1, 1], size=size))
        octets = written([(1, 0)])
        octets[19] += 1
        self.refuse("wrong checksum", octets)
        octets = written(options=[0, 0, 0, 1])
        octets[19] += 1
        self.refuse("wrong checksum", octets)
        octets = written(options=[])
        octets[19] += 1
        self.refuse("wrong checksum", octets)
        self.refuse("no port", written([(1, 0)], options=[0, 0, 0, 1]))
        self.refuse("no port", written([(3, 0)], options=[]))
        self.refuse("wrong options", written(options=[0, 0, 0, 1]))
        self.refuse("wrong options", written(options=[2, 4, 1, 2, 3, 3, 3, 3]))

    def test_the_octets_are_not_changed(self):
        octets = written(data=[1, 2, 3])
        before = list(octets)
        decode(0, 0, octets).data.append(4)
        self.assertEqual(octets, before)
        octets[-1] = 9
        before = list(octets)
        self.refuse("wrong checksum", octets)
        self.assertEqual(octets, before)


class BothTest(unittest.TestCase):
    def test_a_written_segment_is_read_as_the_fitted_one(self):
        for segment in samples():
            for sender, target in ((0, 0), (65535, 1)):
                octets = encode(sender, target, segment)
                found = decode(sender, target, octets)
                self.assertEqual(found, fitted(segment))
                self.assertEqual(encode(sender, target, found), octets)

    def test_a_segment_that_was_read_is_fitted_and_within_bounds(self):
        draws = random.Random(3)
        blocks = [[2, 4, 255, 255], [3, 3, 255], [4, 2], [8, 10] + [255] * 8, [5, 10] + [1] * 8, [5, 18] + [2] * 16,
                  [5, 26] + [3] * 24, [5, 34] + [4] * 32, [77, 4, 1, 1], [1]]
        many = 0
        for _ in range(2000):
            options = [COUNT, [253, 12, 83, 85] + [255] * 8][draws.randrange(2)]
            for block in draws.sample(blocks, draws.randrange(1, 6)):
                options = options + block if draws.randrange(2) else block + options
            options = options + [0] * (-len(options) % 4)
            if len(options) > 40:
                continue
            try:
                found = decode(0, 0, written(options=options, data=[1, 2]))
            except DamagedSegment as error:
                self.assertEqual(error.reason, "wrong options")
                continue
            many += 1
            self.assertEqual(fitted(found), found)
            self.assertTrue(found.scale is None or 0 <= found.scale <= 14)
            self.assertEqual(decode(8, 9, encode(8, 9, found)), found)
        self.assertGreater(many, 100)

    def test_each_octet_replaced_by_another_one_is_refused(self):
        segments = [made(), made(ack=1, syn=True, mss=1460, scale=2, ranges_known=True, data=[0, 255, 7]),
                    made(stamp=(255, 0), ranges=[(1, 2)], echo=9, fin=True, data=[255, 255])]
        for segment in segments:
            octets = encode(258, 65535, segment)
            for index, right in enumerate(octets):
                for wrong in range(256):
                    if wrong != right:
                        with self.assertRaises(DamagedSegment):
                            decode(258, 65535, octets[:index] + [wrong] + octets[index + 1:])


if __name__ == "__main__":
    unittest.main()
