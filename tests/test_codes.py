"""Codes of the parts of a host (points 137 and 138)."""

import random
import unittest

from tests.endpoints import PHASES, in_phase, options
from tests.frozen import frozen
from throughline.errors import InvalidText, ThroughlineError
from throughline.host.codes import (
    CodeReader, read_control, read_receiver, read_sender, read_trip, write_control, write_receiver, write_sender,
    write_trip)
from throughline.offsets.piece import Piece
from throughline.pace.cubic import Cubic
from throughline.pace.reno import Reno
from throughline.pace.round_trip import RoundTrip
from throughline.receiving.receiver import Receiver
from throughline.sending.sender import Sender

RENO, CUBIC = options(control="reno"), options(control="cubic")


def used_sender():
    sender = Sender(500)
    sender.write([5] * 90)
    sender.mark_sent(sender.piece(0, 0))
    sender.acknowledge(1, 400, [], empty=True, mss=10)
    for start in (1, 11, 21, 31, 41):
        sender.mark_sent(sender.piece(start, 10))
    sender.acknowledge(11, 400, [(21, 31), (41, 51)], empty=True, mss=10)
    for _ in range(3):
        sender.acknowledge(11, 400, [], empty=True, mss=10)
    sender.finish()
    return sender


def used_receiver():
    receiver = Receiver(300)
    receiver.arrive(Piece(0, syn=True))
    for start, data in ((1, [1, 2]), (9, [9, 10]), (5, [5]), (40, [40])):
        receiver.arrive(Piece(start, data=data))
    return receiver


def used_trip():
    trip = RoundTrip(10, 80)
    trip.sample(7)
    trip.sample(12)
    return trip


def used_control(kind, losses=1):
    control = kind(100)
    for _ in range(losses):
        control.lose(100, flight=900)
    for now in range(1, 4):
        control.acknowledge(100, now, 500, flight=5000, recovering=False)
    control.calm = 7
    return control


def codes():
    """Rows of a part, its code, and the functions that write and read it."""

    def of_sender(reader):
        return read_sender(reader, 500)

    def of_receiver(reader):
        return read_receiver(reader, 300)

    def of_trip(reader):
        return read_trip(reader, RENO)

    def of_reno(reader):
        return read_control(reader, RENO)

    def of_cubic(reader):
        return read_control(reader, CUBIC)

    rows = [
        (Sender(500), [0, 0, 0, 0, 1, 0, 0, 0, 0, 0, 0], write_sender, of_sender),
        (used_sender(), None, write_sender, of_sender),
        (Receiver(300), [0, 301, 0, 0, 0, 0], write_receiver, of_receiver),
        (used_receiver(), [3, 301, 0, 40, 2, 1, 2, 4, 5, 5, 9, 9, 10, 10, 40, 40], write_receiver, of_receiver),
        (RoundTrip(10, 80), [0, 0, 40, 0], write_trip, of_trip),
        (used_trip(), [61, 16, 23, 1], write_trip, of_trip),
        (Reno(100), [1000, 1073741824, 0, 0, 0, 0], write_control, of_reno),
        (used_control(Reno), None, write_control, of_reno),
        (Cubic(100), [1000, 1073741824, 0, 0, 0, 0], write_control, of_cubic),
        (used_control(Cubic), None, write_control, of_cubic),
    ]
    return [(part, write(part) if code is None else code, write, read) for part, code, write, read in rows]


class ReaderTest(unittest.TestCase):
    def test_numbers_one_after_another(self):
        reader = CodeReader([5, 0, 7], 3)
        self.assertEqual([reader.number(), reader.number(), reader.number()], [5, 0, 7])
        self.assertIsNone(reader.finish())

    def check(self, call, line):
        with self.assertRaises(InvalidText) as caught:
            call()
        self.assertEqual(caught.exception.line, line)
        self.assertIsInstance(caught.exception, ThroughlineError)

    def test_no_number_left(self):
        reader = CodeReader([], 3)
        self.check(reader.number, 3)
        reader = CodeReader([1], 99)
        reader.number()
        self.check(reader.number, 99)
        self.check(reader.number, 99)
        reader.finish()

    def test_numbers_that_are_left(self):
        reader = CodeReader([1, 2], 8)
        self.check(reader.finish, 8)
        self.assertEqual(reader.number(), 1)
        self.check(reader.finish, 8)
        self.assertEqual(reader.number(), 2)
        reader.finish()

    def test_an_empty_code(self):
        self.assertIsNone(CodeReader([], 1).finish())

    def test_the_list_is_copied(self):
        numbers = [1, 2]
        reader = CodeReader(numbers, 1)
        numbers.clear()
        self.assertEqual((reader.number(), reader.number()), (1, 2))
        numbers = [1, 2]
        CodeReader(numbers, 1).number()
        self.assertEqual(numbers, [1, 2])

    def test_great_numbers(self):
        self.assertEqual(CodeReader([10 ** 3999], 1).number(), 10 ** 3999)


class CodesTest(unittest.TestCase):
    def test_writing(self):
        for part, code, write, _ in codes():
            before = frozen(part)
            self.assertEqual(write(part), code)
            self.assertEqual(frozen(part), before)
            write(part).append(7)
            self.assertEqual(write(part), code)
            # True and False are numbers in a code, too.
            self.assertTrue(all(number.__class__ is int for number in code))

    def test_the_code_of_a_sender(self):
        sender = used_sender()
        self.assertEqual(sender.sacked, [(21, 31), (41, 51)])
        self.assertEqual(write_sender(sender), [
            11, 51, 90, 1, 400, 1, sender.recovery, sender.resend, sender.lost, sender.repeated,
            80, *[5] * 80, 2, 21, 31, 41, 51])
        self.assertEqual((sender.recovery, sender.resend, sender.lost, sender.repeated), (51, 11, 12, 3))

    def test_the_code_of_a_receiver_at_its_end(self):
        receiver = Receiver(300)
        receiver.arrive(Piece(0, syn=True))
        receiver.arrive(Piece(1, data=[7], fin=True))
        self.assertEqual(write_receiver(receiver), [3, 301, 1, 2, 0, 1, 7, 0])

    def test_the_code_of_what_is_held_in_another_order(self):
        one, two = Receiver(300), Receiver(300)
        for receiver, starts in ((one, (5, 9, 7)), (two, (9, 7, 5))):
            receiver.arrive(Piece(0, syn=True))
            for start in starts:
                receiver.arrive(Piece(start, data=[start]))
        self.assertEqual(write_receiver(one)[4:], [0, 3, 5, 5, 7, 7, 9, 9])
        self.assertEqual(write_receiver(two)[4:], [0, 3, 5, 5, 7, 7, 9, 9])

    def test_the_code_of_a_control(self):
        control = used_control(Reno)
        self.assertEqual(write_control(control),
                         [control.cwnd, control.thresh, control.peak, control.prior, 7, control.credit])
        self.assertGreater(control.credit, 0)
        control = used_control(Cubic)
        self.assertEqual(write_control(control), [control.cwnd, control.thresh, control.peak, control.prior, 7, 1,
                                                  *control.period])
        control.lose(100, flight=900)
        self.assertEqual(write_control(control)[5:], [0])

    def test_written_and_read_again(self):
        for part, code, write, read in codes():
            reader = CodeReader([*code, 77], 1)
            found = read(reader)
            self.assertIs(found.__class__, part.__class__)
            self.assertEqual(write(found), code)
            self.assertEqual(reader.number(), 77)
            reader.finish()
            if part.__class__ is not Receiver:
                self.assertEqual(frozen(found), frozen(part))

    def test_flags_are_true_and_false(self):
        sender = read_sender(CodeReader(write_sender(used_sender()), 1), 500)
        self.assertIs(sender.finished, True)
        self.assertIs(read_sender(CodeReader(write_sender(Sender(5)), 1), 5).finished, False)
        self.assertIs(read_trip(CodeReader([1, 2, 3, 1], 1), RENO).measured, True)
        self.assertIs(read_trip(CodeReader([1, 2, 3, 0], 1), RENO).measured, False)

    def test_rooms_and_bounds_are_given(self):
        self.assertEqual(read_sender(CodeReader(write_sender(Sender(5)), 1), 44).room, 44)
        self.assertEqual(read_receiver(CodeReader(write_receiver(Receiver(5)), 1), 44).room, 44)
        trip = read_trip(CodeReader([0, 0, 5, 0], 1), options(min_rto=6, max_rto=17))
        self.assertEqual((trip.least, trip.most, trip.rto), (6, 17, 5))

    def test_a_period_is_a_tuple(self):
        control = read_control(CodeReader(write_control(used_control(Cubic)), 1), CUBIC)
        self.assertIsInstance(control.period, tuple)
        self.assertEqual(control.period, used_control(Cubic).period)

    def test_they_go_on_in_the_same_way(self):
        for part, code, write, read in codes():
            found = read(CodeReader(code, 1))
            for given in (part, found):
                if isinstance(given, Sender):
                    given.mark_sent(given.first_piece(10) if given.una < given.nxt else given.piece(0, 0))
                    given.acknowledge(given.nxt, 500, [], empty=True, mss=10)
                elif isinstance(given, Receiver):
                    given.arrive(Piece(0, data=[8] * 12, syn=True))
                    given.read(4)
                elif isinstance(given, RoundTrip):
                    given.sample(30)
                    given.back_off()
                else:
                    given.acknowledge(100, 90, 500, flight=5000, recovering=False)
            self.assertEqual(write(found), write(part))
            self.assertNotEqual(write(part), code)
            self.assertEqual(found.held_ranges() if isinstance(found, Receiver) else None,
                             part.held_ranges() if isinstance(part, Receiver) else None)

    def test_numbers_that_no_part_has_are_kept(self):
        for code in ([9, 3, 0, 1, 0, 1, 0, 99, 98, 97, 2, 300, 4000, 3, 5, 3, 7, 7, 1, 20],
                     [0] * 8 + [10 ** 3000, 0, 1, 0, 0]):
            self.assertEqual(write_sender(read_sender(CodeReader(code, 1), 10)), code)
        for code in ([9, 3, 1, 2, 50, 2, 999, 0, 2, 1, 5, 4, 1000], [0, 0, 0, 0, 0, 1, 10 ** 20, 10 ** 20]):
            self.assertEqual(write_receiver(read_receiver(CodeReader(code, 1), 10)), code)
        self.assertEqual(write_trip(read_trip(CodeReader([0, 0, 0, 1], 1), RENO)), [0, 0, 0, 1])
        for code in ([0] * 6, [0] * 5 + [10 ** 50]):
            self.assertEqual(write_control(read_control(CodeReader(code, 1), RENO)), code)
        self.assertEqual(write_control(read_control(CodeReader([0] * 5 + [1] + [0] * 5, 1), CUBIC)),
                         [0] * 5 + [1] + [0] * 5)


class WrongCodesTest(unittest.TestCase):
    def refuse(self, read, code, ahead=()):
        """The code is refused, and nothing of it is read."""
        reader = CodeReader([*ahead, *code], 12)
        for number in ahead:
            self.assertEqual(reader.number(), number)
        before = frozen(reader)
        with self.subTest(code=code[:20]), self.assertRaises(InvalidText) as caught:
            read(reader)
        self.assertEqual(caught.exception.line, 12)
        self.assertEqual(frozen(reader), before)

    def test_each_code_cut_at_every_place(self):
        for _, code, _, read in codes():
            for at in range(len(code)):
                self.refuse(read, code[:at])
                self.refuse(read, code[:at], ahead=(5, 6))

    def test_flags_that_are_no_flags(self):
        rows = [(code, read) for part, code, write, read in codes()]
        # The places of flags, and of numbers that may be None.
        for row, places in ((0, (3, 5)), (1, (3, 5)), (2, (2,)), (3, (2,)), (4, (3,)), (5, (3,)), (8, (5,)), (9, (5,))):
            code, read = rows[row]
            for place in places:
                for wrong in (2, 3, 1000):
                    self.refuse(read, [*code[:place], wrong, *code[place + 1:]])

    def test_counts_beyond_the_end(self):
        for row, place in ((0, 9), (0, 10), (2, 4), (2, 5), (3, 4), (3, 7)):
            _, code, _, read = codes()[row]
            for more in (1, 20, 10 ** 30):
                self.refuse(read, [*code[:place], code[place] + more, *code[place + 1:]])

    def test_held_offsets_that_are_not_ascending(self):
        def read(reader):
            return read_receiver(reader, 300)

        for offsets in ([5, 5], [5, 4], [1, 2, 3, 3], [9, 1, 2], [1, 3, 2, 4]):
            pairs = [number for offset in offsets for number in (offset, 7)]
            self.refuse(read, [1, 301, 0, 0, 0, len(offsets), *pairs])
        self.assertEqual(read(CodeReader([1, 301, 0, 0, 0, 3, 2, 7, 3, 7, 9, 7], 1)).holds, 3)

    def test_numbers_behind_a_code(self):
        for _, code, write, read in codes():
            reader = CodeReader([*code, 5], 31)
            self.assertEqual(write(read(reader)), code)
            with self.assertRaises(InvalidText) as caught:
                reader.finish()
            self.assertEqual(caught.exception.line, 31)

    def test_drawn_codes(self):
        draws = random.Random(137)
        read_again = 0
        for _ in range(4000):
            _, code, write, read = draws.choice(codes())
            code = list(code)
            for _ in range(draws.randrange(1, 4)):
                at = draws.randrange(len(code))
                code[at:at + draws.randrange(2)] = draws.choice([[], [0], [1], [2], [3, 9], [10 ** 9]])
            reader = CodeReader(code, 5)
            before = frozen(reader)
            try:
                found = read(reader)
            except InvalidText:
                self.assertEqual(frozen(reader), before)
                continue
            written = write(found)
            self.assertEqual(written, code[:len(written)])
            rest = [reader.number() for _ in code[len(written):]]
            self.assertEqual(rest, code[len(written):])
            reader.finish()
            read_again += 1
        self.assertGreater(read_again, 300)


class PhasesTest(unittest.TestCase):
    def test_the_parts_of_endpoints_in_each_phase(self):
        for kind in ("reno", "cubic"):
            for phase in PHASES:
                endpoint = in_phase(phase, control=kind)
                given = endpoint.options
                for code, write, read in (
                        (write_sender(endpoint.sender), write_sender, lambda reader: read_sender(reader, given.room)),
                        (write_receiver(endpoint.receiver), write_receiver,
                         lambda reader: read_receiver(reader, given.room)),
                        (write_trip(endpoint.trip), write_trip, lambda reader: read_trip(reader, given)),
                        (write_control(endpoint.control), write_control, lambda reader: read_control(reader, given))):
                    reader = CodeReader(code, 1)
                    self.assertEqual(write(read(reader)), code)
                    reader.finish()


if __name__ == "__main__":
    unittest.main()
