import unittest

from throughline.offsets.piece import Piece
from throughline.receiving.receiver import Receiver


def octets(first, many):
    """The octets of a stream in which the octet with the offset k is k."""
    return [k % 256 for k in range(first, first + many)]


def part(start, many, fin=False):
    return Piece(start, data=octets(start, many), fin=fin)


def started(room=100):
    receiver = Receiver(room)
    receiver.arrive(Piece(0, syn=True))
    return receiver


def state(receiver):
    names = ("room", "nxt", "edge", "end", "recent", "ready", "end_taken", "at_end", "holds", "permitted")
    return {**{name: getattr(receiver, name) for name in names}, "ranges": receiver.held_ranges()}


class FirstValuesTest(unittest.TestCase):
    def test_a_new_receiver(self):
        self.assertEqual(state(Receiver(50)), {
            "room": 50, "nxt": 0, "edge": 51, "end": None, "recent": 0, "ready": 0, "end_taken": False,
            "at_end": False, "holds": 0, "permitted": 51, "ranges": []})
        self.assertIs(Receiver(50).end_taken, False)
        self.assertIs(Receiver(50).at_end, False)
        self.assertEqual(Receiver(50).read(9), [])


class SynTest(unittest.TestCase):
    def test_the_syn(self):
        receiver = Receiver(50)
        self.assertIsNone(receiver.arrive(Piece(0, syn=True)))
        self.assertEqual((receiver.nxt, receiver.ready, receiver.permitted), (1, 0, 50))

    def test_before_the_syn_nothing_changes(self):
        for piece in (part(1, 5), part(0, 5), part(3, 5, fin=True), Piece(0), Piece(0, fin=True),
                      Piece(3, syn=True, data=[1, 2]), Piece(1, syn=True)):
            receiver = Receiver(50)
            receiver.arrive(piece)
            self.assertEqual(state(receiver), state(Receiver(50)))

    def test_the_syn_with_octets(self):
        receiver = Receiver(50)
        receiver.arrive(Piece(0, syn=True, data=octets(1, 5)))
        self.assertEqual((receiver.nxt, receiver.ready, receiver.holds), (6, 5, 0))
        self.assertEqual(receiver.read(9), octets(1, 5))

    def test_the_syn_with_octets_and_the_end(self):
        receiver = Receiver(50)
        receiver.arrive(Piece(0, syn=True, data=octets(1, 5), fin=True))
        self.assertEqual((receiver.nxt, receiver.end, receiver.ready), (7, 6, 5))
        receiver = Receiver(50)
        receiver.arrive(Piece(0, syn=True, fin=True))
        self.assertEqual((receiver.nxt, receiver.end), (2, 1))
        self.assertIs(receiver.at_end, True)

    def test_the_syn_again(self):
        receiver = started()
        receiver.arrive(part(1, 5))
        receiver.arrive(Piece(0, syn=True))
        self.assertEqual((receiver.nxt, receiver.ready), (6, 5))
        receiver.arrive(Piece(0, syn=True, data=octets(1, 8)))
        self.assertEqual((receiver.nxt, receiver.ready), (9, 8))
        self.assertEqual(receiver.read(99), octets(1, 8))

    def test_the_first_octet_of_a_piece_with_the_syn_stands_behind_it(self):
        receiver = started()
        receiver.arrive(Piece(4, syn=True, data=octets(5, 3)))
        self.assertEqual((receiver.held_ranges(), receiver.recent), ([(5, 8)], 5))
        receiver.arrive(part(1, 4))
        self.assertEqual(receiver.read(99), octets(1, 7))


class ArrivingTest(unittest.TestCase):
    def test_in_order(self):
        receiver = started()
        receiver.arrive(part(1, 5))
        self.assertEqual((receiver.nxt, receiver.ready, receiver.holds), (6, 5, 0))
        receiver.arrive(part(6, 1))
        self.assertEqual((receiver.nxt, receiver.ready, receiver.holds), (7, 6, 0))
        self.assertEqual(receiver.read(99), octets(1, 6))

    def test_out_of_order(self):
        receiver = started()
        receiver.arrive(part(6, 5))
        self.assertEqual((receiver.nxt, receiver.ready, receiver.holds), (1, 0, 5))
        receiver.arrive(part(16, 5))
        self.assertEqual((receiver.nxt, receiver.ready, receiver.holds), (1, 0, 10))
        receiver.arrive(part(1, 5))
        self.assertEqual((receiver.nxt, receiver.ready, receiver.holds), (11, 10, 5))
        receiver.arrive(part(11, 5))
        self.assertEqual((receiver.nxt, receiver.ready, receiver.holds), (21, 20, 0))
        self.assertEqual(receiver.read(99), octets(1, 20))

    def test_repeated_and_overlapping(self):
        receiver = started()
        for start, many, ready, holds in ((1, 5, 5, 0), (1, 5, 5, 0), (3, 5, 7, 0), (10, 5, 7, 5), (12, 8, 7, 10),
                                          (9, 3, 7, 11), (10, 5, 7, 11), (5, 4, 19, 0), (1, 25, 25, 0)):
            receiver.arrive(part(start, many))
            self.assertEqual((receiver.ready, receiver.holds, receiver.nxt), (ready, holds, ready + 1))
        self.assertEqual(receiver.read(99), octets(1, 25))

    def test_an_octet_that_is_held_stays(self):
        receiver = started()
        receiver.arrive(Piece(3, data=[30, 40]))
        receiver.arrive(Piece(2, data=[21, 31, 41, 51]))
        receiver.arrive(Piece(1, data=[12, 22]))
        self.assertEqual(receiver.read(99), [12, 21, 30, 40, 51])

    def test_an_octet_that_is_ready_stays(self):
        receiver = started()
        receiver.arrive(Piece(1, data=[10, 20]))
        receiver.arrive(Piece(1, data=[11, 21, 31]))
        self.assertEqual(receiver.read(99), [10, 20, 31])

    def test_octets_beyond_the_edge(self):
        receiver = started(room=10)
        receiver.arrive(part(8, 9))
        self.assertEqual((receiver.holds, receiver.held_ranges()), (3, [(8, 11)]))
        receiver.arrive(part(11, 3))
        self.assertEqual(receiver.holds, 3)
        receiver.arrive(part(1, 20))
        self.assertEqual((receiver.nxt, receiver.ready, receiver.holds, receiver.permitted), (11, 10, 0, 0))
        self.assertEqual(receiver.read(99), octets(1, 10))

    def test_octets_beyond_the_end(self):
        receiver = started()
        receiver.arrive(part(6, 3, fin=True))
        self.assertEqual((receiver.end, receiver.holds), (9, 3))
        receiver.arrive(part(7, 9))
        receiver.arrive(part(9, 3))
        receiver.arrive(part(12, 3))
        self.assertEqual((receiver.end, receiver.holds, receiver.held_ranges()), (9, 3, [(6, 9)]))
        receiver.arrive(part(1, 20))
        self.assertEqual((receiver.nxt, receiver.ready, receiver.holds), (10, 8, 0))
        receiver.arrive(part(9, 9))
        receiver.arrive(part(10, 9))
        self.assertEqual((receiver.nxt, receiver.ready, receiver.holds), (10, 8, 0))
        self.assertEqual(receiver.read(99), octets(1, 8))

    def test_an_empty_piece_changes_nothing(self):
        receiver = started()
        receiver.arrive(part(1, 5))
        receiver.arrive(part(8, 2))
        before = state(receiver)
        for start in (0, 1, 6, 7, 8, 50, 1000):
            receiver.arrive(Piece(start))
            self.assertEqual(state(receiver), before)

    def test_the_piece_is_neither_changed_nor_kept(self):
        receiver = started()
        ahead, behind = part(6, 5), part(1, 5)
        for piece in (ahead, behind):
            before = list(piece.data)
            receiver.arrive(piece)
            self.assertEqual(piece.data, before)
            piece.data[:] = [0] * 5
        self.assertEqual(receiver.read(99), octets(1, 10))


class EndTest(unittest.TestCase):
    def test_the_end_in_order(self):
        receiver = started()
        receiver.arrive(part(1, 5, fin=True))
        self.assertEqual((receiver.nxt, receiver.end, receiver.ready), (7, 6, 5))
        self.assertIs(receiver.end_taken, True)
        self.assertIs(receiver.at_end, False)
        receiver.read(4)
        self.assertIs(receiver.at_end, False)
        receiver.read(1)
        self.assertIs(receiver.at_end, True)

    def test_the_end_alone(self):
        receiver = started()
        receiver.arrive(part(1, 5))
        receiver.arrive(Piece(6, fin=True))
        self.assertEqual((receiver.nxt, receiver.end, receiver.end_taken), (7, 6, True))
        receiver.arrive(Piece(6, fin=True))
        receiver.arrive(part(1, 5, fin=True))
        self.assertEqual((receiver.nxt, receiver.end, receiver.ready), (7, 6, 5))

    def test_the_end_before_the_octets(self):
        receiver = started()
        receiver.arrive(Piece(6, fin=True))
        self.assertEqual((receiver.nxt, receiver.end, receiver.end_taken), (1, 6, False))
        self.assertIs(receiver.at_end, False)
        receiver.arrive(part(1, 4))
        self.assertEqual((receiver.nxt, receiver.end_taken), (5, False))
        receiver.arrive(part(5, 1))
        self.assertEqual((receiver.nxt, receiver.end_taken), (7, True))

    def test_the_end_of_an_empty_stream(self):
        receiver = started()
        receiver.arrive(Piece(1, fin=True))
        self.assertEqual((receiver.nxt, receiver.end), (2, 1))
        self.assertIs(receiver.at_end, True)

    def test_the_end_with_held_octets(self):
        receiver = started()
        receiver.arrive(part(6, 5, fin=True))
        self.assertEqual((receiver.nxt, receiver.end, receiver.holds), (1, 11, 5))
        receiver.arrive(part(1, 5))
        self.assertEqual((receiver.nxt, receiver.end, receiver.ready), (12, 11, 10))

    def test_an_end_below_held_octets_is_not_taken_over(self):
        for end in (6, 7, 8, 9):
            receiver = started()
            receiver.arrive(part(8, 2))
            receiver.arrive(Piece(end, fin=True))
            self.assertIsNone(receiver.end)
        receiver = started()
        receiver.arrive(part(8, 2))
        receiver.arrive(Piece(10, fin=True))
        self.assertEqual(receiver.end, 10)
        receiver = started()
        receiver.arrive(part(8, 2))
        receiver.arrive(part(20, 2))
        receiver.arrive(Piece(15, fin=True))
        self.assertIsNone(receiver.end)

    def test_an_end_beyond_the_edge_is_not_taken_over(self):
        receiver = started(room=10)
        receiver.arrive(Piece(12, fin=True))
        self.assertIsNone(receiver.end)
        receiver.arrive(part(9, 3, fin=True))
        self.assertEqual((receiver.end, receiver.holds), (None, 2))
        receiver.arrive(part(9, 2, fin=True))
        self.assertEqual(receiver.end, 11)

    def test_an_end_at_the_edge(self):
        receiver = started(room=10)
        receiver.arrive(part(1, 10, fin=True))
        self.assertEqual((receiver.end, receiver.nxt, receiver.permitted), (11, 12, 0))

    def test_an_end_below_nxt_is_not_taken_over(self):
        receiver = started()
        receiver.arrive(part(1, 5))
        receiver.arrive(Piece(5, fin=True))
        receiver.arrive(part(1, 4, fin=True))
        self.assertIsNone(receiver.end)
        receiver = started()
        receiver.arrive(Piece(0, fin=True))
        self.assertIsNone(receiver.end)

    def test_another_end_is_not_taken_over(self):
        receiver = started()
        receiver.arrive(Piece(10, fin=True))
        receiver.arrive(Piece(8, fin=True))
        receiver.arrive(Piece(12, fin=True))
        self.assertEqual(receiver.end, 10)
        receiver.arrive(part(1, 9))
        receiver.arrive(Piece(11, fin=True))
        self.assertEqual((receiver.end, receiver.nxt), (10, 11))

    def test_a_piece_without_the_end(self):
        receiver = started()
        receiver.arrive(part(1, 5))
        self.assertIsNone(receiver.end)


class ReadingTest(unittest.TestCase):
    def test_reads_of_none_some_and_all(self):
        receiver = started()
        receiver.arrive(part(1, 10))
        self.assertEqual(receiver.read(0), [])
        self.assertEqual(receiver.ready, 10)
        self.assertEqual(receiver.read(3), octets(1, 3))
        self.assertEqual(receiver.ready, 7)
        self.assertEqual(receiver.read(7), octets(4, 7))
        self.assertEqual((receiver.ready, receiver.nxt), (0, 11))
        self.assertEqual(receiver.read(1), [])

    def test_a_read_of_more_than_is_ready(self):
        receiver = started()
        receiver.arrive(part(1, 5))
        receiver.arrive(part(8, 5))
        self.assertEqual(receiver.read(1000), octets(1, 5))
        self.assertEqual((receiver.ready, receiver.holds), (0, 5))

    def test_the_list_is_new(self):
        receiver = started()
        receiver.arrive(part(1, 5))
        receiver.read(0).append(9)
        receiver.read(2).clear()
        self.assertEqual(receiver.read(9), octets(3, 3))

    def test_a_read_does_not_move_the_edge(self):
        receiver = started(room=10)
        receiver.arrive(part(1, 10))
        receiver.read(10)
        self.assertEqual((receiver.edge, receiver.permitted), (11, 0))


class AdvertisingTest(unittest.TestCase):
    def test_before_and_behind_the_syn(self):
        receiver = Receiver(50)
        self.assertIs(receiver.would_move(10), False)
        self.assertEqual(receiver.advertise(10), 51)
        receiver.arrive(Piece(0, syn=True))
        self.assertIs(receiver.would_move(10), False)
        self.assertEqual((receiver.advertise(10), receiver.edge), (50, 51))

    def test_octets_that_wait_use_the_window_up(self):
        receiver = started(room=50)
        receiver.arrive(part(1, 30))
        self.assertIs(receiver.would_move(1), False)
        self.assertEqual((receiver.advertise(1), receiver.permitted, receiver.edge), (20, 20, 51))

    def test_the_window_moves_by_a_whole_piece_at_least(self):
        receiver = started(room=50)
        receiver.arrive(part(1, 30))
        receiver.read(9)
        self.assertIs(receiver.would_move(10), False)
        self.assertEqual((receiver.advertise(10), receiver.edge), (20, 51))
        receiver.read(1)
        self.assertIs(receiver.would_move(10), True)
        self.assertEqual((receiver.permitted, receiver.edge), (20, 51))
        self.assertEqual((receiver.advertise(10), receiver.edge, receiver.permitted), (30, 61, 30))
        self.assertIs(receiver.would_move(10), False)
        self.assertEqual((receiver.advertise(10), receiver.edge), (30, 61))

    def test_the_window_moves_by_half_of_the_room_at_least(self):
        for room, half in ((20, 10), (21, 10), (3, 1)):
            receiver = started(room=room)
            receiver.arrive(part(1, room))
            receiver.read(half - 1)
            self.assertIs(receiver.would_move(1000), False)
            self.assertEqual(receiver.advertise(1000), 0)
            receiver.read(1)
            self.assertIs(receiver.would_move(1000), True)
            self.assertEqual((receiver.advertise(1000), receiver.edge), (half, room + half + 1))

    def test_the_least_rooms(self):
        for room in (0, 1):
            receiver = started(room=room)
            self.assertIs(receiver.would_move(10), False)
            self.assertEqual((receiver.advertise(10), receiver.edge), (room, room + 1))
        receiver.arrive(part(1, 1))
        self.assertIs(receiver.would_move(10), False)
        self.assertEqual((receiver.advertise(10), receiver.edge), (0, 2))
        receiver.read(1)
        self.assertIs(receiver.would_move(10), True)
        self.assertEqual((receiver.advertise(10), receiver.edge), (1, 3))

    def test_held_octets_do_not_count(self):
        receiver = started(room=50)
        receiver.arrive(part(11, 20))
        self.assertEqual((receiver.advertise(10), receiver.edge), (50, 51))

    def test_the_end_does_not_count(self):
        receiver = started(room=50)
        receiver.arrive(part(1, 20, fin=True))
        self.assertEqual((receiver.nxt, receiver.advertise(10), receiver.edge), (22, 29, 51))
        receiver.read(9)
        self.assertIs(receiver.would_move(10), False)
        receiver.read(1)
        self.assertIs(receiver.would_move(10), True)
        self.assertEqual((receiver.advertise(10), receiver.edge), (39, 61))

    def test_an_end_that_is_known_but_not_taken(self):
        receiver = started(room=50)
        receiver.arrive(part(1, 19))
        receiver.arrive(Piece(21, fin=True))
        receiver.read(10)
        self.assertEqual((receiver.advertise(10), receiver.edge), (41, 61))

    def test_the_window_is_never_negative(self):
        receiver = started(room=10)
        receiver.arrive(part(1, 10, fin=True))
        self.assertEqual((receiver.edge, receiver.nxt, receiver.permitted, receiver.advertise(5)), (11, 12, 0, 0))


class RangesTest(unittest.TestCase):
    def test_the_recent_one_comes_first(self):
        receiver = started()
        receiver.arrive(part(10, 5))
        self.assertEqual((receiver.held_ranges(), receiver.recent), ([(10, 15)], 10))
        receiver.arrive(part(30, 5))
        self.assertEqual((receiver.held_ranges(), receiver.recent), ([(30, 35), (10, 15)], 30))
        receiver.arrive(part(20, 5))
        self.assertEqual((receiver.held_ranges(), receiver.recent), ([(20, 25), (10, 15), (30, 35)], 20))
        receiver.arrive(part(5, 2))
        self.assertEqual((receiver.held_ranges(), receiver.recent), ([(5, 7), (10, 15), (20, 25)], 5))

    def test_at_most_three(self):
        receiver = started()
        for start in (10, 20, 30, 40, 50):
            receiver.arrive(part(start, 5))
        self.assertEqual(receiver.held_ranges(), [(50, 55), (10, 15), (20, 25)])
        receiver.arrive(part(31, 5))
        self.assertEqual(receiver.held_ranges(), [(30, 36), (10, 15), (20, 25)])

    def test_ranges_that_grow_together(self):
        receiver = started()
        receiver.arrive(part(10, 5))
        receiver.arrive(part(20, 5))
        receiver.arrive(part(15, 5))
        self.assertEqual((receiver.held_ranges(), receiver.recent), ([(10, 25)], 15))

    def test_a_piece_that_brings_nothing_new_is_not_recent(self):
        receiver = started()
        receiver.arrive(part(10, 5))
        receiver.arrive(part(30, 5))
        receiver.arrive(part(10, 5))
        self.assertEqual((receiver.held_ranges(), receiver.recent), ([(30, 35), (10, 15)], 30))
        receiver.arrive(part(1, 4))
        self.assertEqual((receiver.held_ranges(), receiver.recent), ([(30, 35), (10, 15)], 30))

    def test_the_recent_one_begins_where_the_piece_does(self):
        receiver = started()
        receiver.arrive(part(10, 5))
        receiver.arrive(part(12, 9))
        self.assertEqual((receiver.held_ranges(), receiver.recent), ([(10, 21)], 12))

    def test_without_a_recent_one_they_ascend(self):
        receiver = started()
        receiver.arrive(part(30, 5))
        receiver.arrive(part(20, 5))
        receiver.arrive(part(5, 5))
        receiver.arrive(part(1, 4))
        self.assertEqual((receiver.held_ranges(), receiver.recent), ([(20, 25), (30, 35)], 5))

    def test_a_range_stops_ahead_of_its_second_number(self):
        receiver = started()
        receiver.arrive(part(10, 5))
        receiver.arrive(part(30, 5))
        for recent, first in ((29, (10, 15)), (30, (30, 35)), (34, (30, 35)), (35, (10, 15))):
            receiver.recent = recent
            self.assertEqual(receiver.held_ranges()[0], first)

    def test_more_is_held_than_before_although_some_became_ready(self):
        receiver = started()
        receiver.arrive(part(1, 5))
        receiver.arrive(part(3, 9))
        self.assertEqual((receiver.recent, receiver.nxt), (0, 12))

    def test_the_list_is_new(self):
        receiver = started()
        receiver.arrive(part(10, 5))
        receiver.held_ranges().clear()
        self.assertEqual(receiver.held_ranges(), [(10, 15)])
        self.assertIs(receiver.held_ranges()[0].__class__, tuple)


if __name__ == "__main__":
    unittest.main()
