"""Saved hosts: their texts, and texts that are wrong (points 136 and 138 to 141)."""

import random
import unittest

from tests.drawn_records import played
from tests.endpoints import CAUSES, PHASES, ended, in_phase, options
from tests.frozen import frozen
from tests.hosts import host, host_state, joined
from throughline.errors import InvalidText, ThroughlineError
from throughline.host.host import Host
from throughline.host.packet import Packet
from throughline.host.saved import load_host, save_host
from throughline.host.socket import Socket
from throughline.offsets.piece import Piece
from throughline.wire.encoding import decode

HEAD = "throughline host 1"
# mss, room, life, pace, tries, min_rto, max_rto, ack_delay, keep_alive, nagle, control
OPTIONS = "100 1000 50 100000 3 10 80 4 0 0 0"
# The first numbers of a socket that has learnt nothing, and its endpoint: it has sent its SYN at the tick 0.
SOCKET = "1 70 2 80 0 0 0 0 0"
ENDPOINT = " ".join([
    "0 100 0", "0 1 0 0 1 0 0 0 0 0 0", "0 1001 0 0 0 0", "0 0 40 0", "1000 1073741824 0 0 0 0",
    "1 40 0 0 0 0 0 0 0 0 0 0 0 0 0"])


def text_of(*lines):
    return "".join(line + "\n" for line in lines)


def connecting():
    """A host that has a listener, and a socket whose SYN was not taken yet."""
    given = host(1)
    given.listen(80)
    given.connect(70, 2, 80)
    return given


def with_sockets(endpoints, **changed):
    """A host with a socket for each of the endpoints, in each way in which a socket can be."""
    given = host(1, **changed)
    sockets = []
    for at, endpoint in enumerate(endpoints):
        socket = Socket(at + 1, 70 + at, 2, 80, endpoint, listened=at % 2 == 1)
        socket.accepted = at % 4 == 3
        if at % 3 > 0:
            socket.peer_count, socket.peer_first, socket.peer_shift = 5, 4294967295, (None, 7)[at % 2]
        sockets.append(socket)
    given.counter = len(sockets)
    given.resume({}, sockets, [])
    return given


class TextsTest(unittest.TestCase):
    def test_a_new_host(self):
        given = host(7)
        self.assertEqual(save_host(given), text_of(HEAD, f"7 {OPTIONS} 0 0 0 0 0"))

    def test_options(self):
        given = Host(65535, options(mss=8, room=16, life=1, pace=2, tries=100, min_rto=5, max_rto=6, ack_delay=1,
                                    keep_alive=9, nagle=True, control="cubic"))
        self.assertEqual(save_host(given), text_of(HEAD, "65535 8 16 1 2 100 5 6 1 9 1 1 0 0 0 0 0"))

    def test_listeners_in_the_order_in_which_they_were_created(self):
        given = host(1)
        for port, backlog in ((90, 8), (70, 1), (80, 32)):
            given.listen(port, backlog=backlog)
        self.assertEqual(save_host(given), text_of(HEAD, f"1 {OPTIONS} 0 0 3 0 0", "90 8", "70 1", "80 32"))
        given.unlisten(90)
        given.listen(90, backlog=2)
        self.assertEqual(save_host(given), text_of(HEAD, f"1 {OPTIONS} 0 0 3 0 0", "70 1", "80 32", "90 2"))

    def test_a_socket_and_a_packet(self):
        given = connecting()
        packet = given.fork().take()[0]
        octets = " ".join(str(octet) for octet in packet.octets)
        self.assertEqual(save_host(given), text_of(
            HEAD, f"1 {OPTIONS} 1 0 1 1 1", "80 8", f"{SOCKET} {ENDPOINT}", f"1 2 0 {len(packet.octets)} {octets}"))
        given.take()
        self.assertEqual(save_host(given), text_of(HEAD, f"1 {OPTIONS} 1 0 1 1 0", "80 8", f"{SOCKET} {ENDPOINT}"))

    def test_packets_in_the_order_in_which_they_were_sent(self):
        given = host(1)
        for port in (72, 70, 71):
            given.connect(port, 2, 80)
        lines = save_host(given).split("\n")
        packets = given.take()
        self.assertEqual([decode(1, 2, packet.octets).source for packet in packets], [72, 70, 71])
        self.assertEqual(lines[-4:-1], [f"1 2 0 {len(packet.octets)} " + " ".join(map(str, packet.octets))
                                        for packet in packets])

    def test_the_counter_and_the_tick(self):
        given = connecting()
        given.tick(12)
        given.restart()
        self.assertEqual(save_host(given), text_of(HEAD, f"1 {OPTIONS} 1 12 0 0 0"))

    def test_each_phase_and_each_cause(self):
        endpoints = [in_phase(phase) for phase in PHASES[:-1]] + [ended(cause) for cause in CAUSES]
        given = with_sockets(endpoints)
        lines = save_host(given).split("\n")[2:-1]
        self.assertEqual(len(lines), 15)
        for at, line in enumerate(lines):
            numbers = [int(word) for word in line.split(" ")]
            self.assertEqual(numbers[:4], [at + 1, 70 + at, 2, 80])
            peer = [0, 0, 0] if at % 3 == 0 else [1, 5, 1, 4294967295, *([1, 7] if at % 2 else [0])]
            self.assertEqual(numbers[4:4 + len(peer)], peer)
            rest = numbers[4 + len(peer):]
            self.assertEqual(rest[:2], [at % 2, int(at % 4 == 3)])
            self.assertEqual(rest[2:4] if at >= 9 else rest[2:3], [9, at - 9] if at >= 9 else [at])

    def test_the_order_of_the_parts_of_an_endpoint(self):
        endpoint = in_phase("established")
        endpoint.sender.una, endpoint.receiver.nxt = 501, 502
        names = ["mss", "since", "late", "rest", "spent_at", "spent", "stamp"]
        for at, name in enumerate(names):
            setattr(endpoint, name, 1000 + at)
        endpoint.selective, endpoint.asked, endpoint.over, endpoint.cut = False, True, True, True
        endpoint.again = endpoint.probe = endpoint.marked = False
        endpoint.alarm, endpoint.ack_at = None, 77
        line = save_host(with_sockets([endpoint])).split("\n")[2]
        self.assertTrue(line.startswith("1 70 2 80 0 0 0 0 0 2 1000 0 501 "), line)
        self.assertTrue(line.endswith(" 0 1001 1 77 1002 1 0 0 1 1003 1004 1005 1006 0 1"), line)

    def test_saving_changes_nothing(self):
        for given in (host(1), connecting(), *joined()):
            before = frozen(given)
            text = save_host(given)
            self.assertEqual(save_host(given), text)
            self.assertEqual(frozen(given), before)


class LoadingTest(unittest.TestCase):
    def check(self, given):
        """The host that is loaded from the text is equal."""
        text = save_host(given)
        found = load_host(text)
        self.assertIsInstance(found, Host)
        self.assertEqual(save_host(found), text)
        self.assertEqual(host_state(found), host_state(given))
        self.assertEqual([socket.endpoint.options for socket in found.created()],
                         [socket.endpoint.options for socket in given.created()])
        return found

    def test_small_hosts(self):
        for given in (host(0), host(65535, control="cubic", nagle=True), connecting(), *joined(), *joined(control="cubic")):
            self.check(given)

    def test_each_phase_and_each_cause(self):
        for kind in ("reno", "cubic"):
            endpoints = [in_phase(phase, control=kind) for phase in PHASES] + [ended(cause) for cause in CAUSES]
            if kind == "cubic":
                endpoints = endpoints[:-6]
            given = with_sockets(endpoints, control=kind)
            text = save_host(given)
            found = load_host(text)
            self.assertEqual(save_host(found), text)
            for one, other in zip(given.created(), found.created()):
                self.assertEqual((one.endpoint.phase, one.endpoint.cause), (other.endpoint.phase, other.endpoint.cause))
                self.assertEqual((one.listened, one.accepted, one.peer_count, one.peer_first, one.peer_shift),
                                 (other.listened, other.accepted, other.peer_count, other.peer_first, other.peer_shift))

    def test_held_octets(self):
        endpoint = in_phase("established")
        for start in (9, 30, 5, 31, 4):
            endpoint.arrive(Piece(start, data=[start, start + 1]), 3)
        found = self.check(with_sockets([endpoint])).find(1).endpoint.receiver
        self.assertEqual((found.held_ranges(), found.holds), ([(4, 7), (9, 11), (30, 33)], 8))

    def test_a_period_of_the_cubic_control(self):
        endpoint = in_phase("established", control="cubic")
        endpoint.control.lose(100, flight=900)
        endpoint.control.acknowledge(100, 5, 500, flight=5000, recovering=False)
        given = with_sockets([endpoint], control="cubic")
        self.assertIsNotNone(endpoint.control.period)
        self.assertEqual(self.check(given).find(1).endpoint.control.period, endpoint.control.period)

    def test_hosts_of_nets(self):
        sockets = packets = 0
        for seed in range(25):
            given = played(random.Random(seed), ticks=30, count=2 + seed % 2)
            for one in given.hosts:
                one.tick(one.now + 70)
                self.check(one)
                sockets += len(one.sockets)
                packets += len(one.fork().take())
        self.assertGreater(sockets, 50)
        self.assertGreater(packets, 20)

    def test_two_hosts_of_one_text_are_two(self):
        given = connecting()
        text = save_host(given)
        one, other = load_host(text), load_host(text)
        before = frozen(other)
        one.take()
        one.unlisten(80)
        one.abort(1)
        one.tick(5)
        self.assertEqual(frozen(other), before)
        self.assertEqual(save_host(given), text)


class WrongTextsTest(unittest.TestCase):
    def refuse(self, text, line):
        with self.subTest(text=text[-60:], size=len(text)):
            with self.assertRaises(InvalidText) as caught:
                load_host(text)
            self.assertEqual(caught.exception.line, line)
            self.assertIsInstance(caught.exception, ThroughlineError)

    def full(self):
        """The lines of a host with two of each part; they are the lines 3 and 4, 5 and 6, 7 and 8."""
        given = connecting()
        given.listen(90)
        given.connect(71, 2, 80)
        lines = save_host(given).split("\n")[:-1]
        self.assertEqual((len(lines), lines[2:4]), (8, ["80 8", "90 8"]))
        self.assertEqual(text_of(*lines), save_host(load_host(text_of(*lines))))
        return lines

    def test_the_first_line(self):
        second = f"1 {OPTIONS} 0 0 0 0 0"
        self.assertEqual(save_host(load_host(text_of(HEAD, second))), text_of(HEAD, second))
        for head in ("", " ", "throughline host", "throughline host 2", "throughline host 01", "Throughline host 1",
                     " throughline host 1", "throughline host 1 ", "throughline  host 1", "throughline host 1\r", "#"):
            self.refuse(text_of(head, second), 1)
        self.refuse(second + "\n", 1)
        self.refuse("\n" + text_of(HEAD, second), 1)

    def test_texts_that_are_cut(self):
        lines = self.full()
        text = text_of(*lines)
        ends = [len(text_of(*lines[:at])) for at in range(len(lines) + 1)]
        for at in range(len(text)):
            # The line that the cut leaves without its newline is wrong, or is missing.
            self.refuse(text[:at], max(row for row in range(len(lines)) if ends[row] <= at) + 1)

    def test_each_line_missing_and_twice(self):
        lines = self.full()
        missing = {0: 1, 1: 2, 2: 4, 3: 4, 4: 6, 5: 6, 6: 8, 7: 8}
        twice = {0: 2, 1: 3, 2: 4, 3: 5, 4: 7, 5: 7, 6: 9, 7: 9}
        for at in range(8):
            self.refuse(text_of(*lines[:at], *lines[at + 1:]), missing[at])
            self.refuse(text_of(*lines[:at + 1], *lines[at:]), twice[at])

    def test_text_behind_the_end(self):
        text = text_of(*self.full())
        for more in ("\n", " ", "x", "0", "0\n", "\n\n", "1 2 0 0\n", "#", "\r"):
            self.refuse(text + more, 9)
        short = text_of(HEAD, f"1 {OPTIONS} 0 0 0 0 0")
        for more in ("\n", " ", "0"):
            self.refuse(short + more, 3)

    def test_lines_that_are_not_lines_of_numbers(self):
        lines = self.full()
        for at in range(1, 8):
            line = lines[at]
            first, _, rest = line.partition(" ")
            for wrong in ("", " ", line + " ", " " + line, line.replace(" ", "  ", 1), line.replace(" ", "\t", 1),
                          line + "\r", "0" + line, "+" + line, "-" + line, first + "a " + rest, line + " x", line + " -1",
                          line + " +1", line + " 00", line + " 1.0", first + "\u0661 " + rest, "\u0661 " + rest,
                          "# " + line, line + " \u00b2", f"{first}_0 {rest}"):
                self.refuse(text_of(*lines[:at], wrong, *lines[at + 1:]), at + 1)

    def test_numbers_behind_a_code_and_codes_that_are_cut(self):
        lines = self.full()
        for at in range(1, 8):
            self.refuse(text_of(*lines[:at], lines[at] + " 0", *lines[at + 1:]), at + 1)
            words = lines[at].split(" ")
            for count in range(1, len(words)):
                self.refuse(text_of(*lines[:at], " ".join(words[:count]), *lines[at + 1:]), at + 1)

    def test_the_first_of_several_wrong_lines(self):
        lines = self.full()
        for first in range(1, 8):
            for second in range(first, 8):
                wrong = list(lines)
                wrong[first] = wrong[second] = "x"
                self.refuse(text_of(*wrong), first + 1)
                self.refuse(text_of(*wrong) + "more", first + 1)

    def test_wrong_options(self):
        good = [100, 1000, 50, 100000, 3, 10, 80, 4, 0, 0, 0]
        for place, wrong in [(0, 7), (0, 1461), (1, 199), (1, 262145), (2, 0), (2, 1073741824), (3, 0), (3, 2 ** 30),
                             (4, 0), (4, 101), (5, 0), (5, 81), (6, 9), (6, 2 ** 30 + 1), (7, 10), (8, 2 ** 30 + 1), (9, 2),
                             (10, 2), (0, 10 ** 3999)]:
            numbers = list(good)
            numbers[place] = wrong
            self.refuse(text_of(HEAD, f"1 {' '.join(map(str, numbers))} 0 0 0 0 0"), 2)
            # Line 2 is wrong ahead of the lines behind it.
            self.refuse(text_of(HEAD, f"1 {' '.join(map(str, numbers))} 0 0 1 0 0", "x"), 2)

    def test_counts_of_lines(self):
        lines = self.full()
        second = lines[1].rpartition(" 2 2 2")[0]
        for counts, line in (("1 2 2", 4), ("3 2 2", 5), ("2 1 2", 6), ("2 3 2", 7), ("2 2 1", 8), ("2 2 3", 9),
                             ("0 0 0", 3), (f"2 2 {10 ** 30}", 9), (f"{10 ** 3000} 0 0", 5), ("2 2", 2), ("2 2 2 0", 2)):
            self.refuse(text_of(lines[0], f"{second} {counts}", *lines[2:]), line)

    def test_equal_ports_of_two_listeners(self):
        lines = [HEAD, f"1 {OPTIONS} 0 0 3 0 0", "80 8", "81 8", "82 8"]
        self.assertEqual(load_host(text_of(*lines)).listeners(), [(80, 8), (81, 8), (82, 8)])
        self.refuse(text_of(*lines[:3], "80 8", "82 8"), 4)
        self.refuse(text_of(*lines[:3], "80 9", "82 8"), 4)
        self.refuse(text_of(*lines[:4], "80 8"), 5)
        self.refuse(text_of(*lines[:4], "81 1"), 5)

    def test_held_offsets_that_are_not_ascending(self):
        lines = self.full()
        line = lines[4]
        words = line.split(" ")
        # The last number of the receiver is how many octets it holds.
        place = SOCKET.count(" ") + 1 + 3 + 11 + 5
        self.assertEqual(words[place - 5:place + 1], ["0", "1001", "0", "0", "0", "0"], line)
        for held, is_right in (("1 5 9", True), ("2 5 9 6 9", True), ("2 5 9 5 9", False), ("2 6 9 5 9", False),
                               ("3 1 9 2 9 2 9", False), ("2 5 9", False), ("1 5", False)):
            text = text_of(*lines[:4], " ".join(words[:place] + held.split(" ") + words[place + 1:]), *lines[5:])
            if is_right:
                self.assertEqual(save_host(load_host(text)), text)
            else:
                self.refuse(text, 5)

    def test_phases_and_causes(self):
        lines = self.full()
        start = len(SOCKET)
        self.assertEqual(lines[4][:start + 3], SOCKET + " 0 ")
        for phase in ["0", "1", "2", "3", "4", "5", "6", "7", "8"] + [f"9 {cause}" for cause in range(6)]:
            text = text_of(*lines[:4], SOCKET + f" {phase} " + lines[4][start + 3:], *lines[5:])
            self.assertEqual(save_host(load_host(text)), text)
        for phase in ("10", "11", "9 6", "9 7", "9 100"):
            self.refuse(text_of(*lines[:4], SOCKET + f" {phase} " + lines[4][start + 3:], *lines[5:]), 5)

    def test_numbers_of_4000_and_4001_digits(self):
        for digits in (16, 900, 3999, 4000):
            number = "1" + "0" * (digits - 1)
            for line in (f"1 {OPTIONS} {number} 0 0 0 0", f"1 {OPTIONS} 0 {number} 0 0 0", f"{number} {OPTIONS} 0 0 0 0 0"):
                text = text_of(HEAD, line)
                self.assertEqual(save_host(load_host(text)), text)
        for number in ("1" + "0" * 4000, "9" * 4001, "9" * 5000):
            self.refuse(text_of(HEAD, f"1 {OPTIONS} {number} 0 0 0 0"), 2)
            self.refuse(text_of(HEAD, f"1 {OPTIONS} 0 0 1 0 0", f"{number} 8"), 3)

    def test_drawn_texts(self):
        """A text is loaded if and only if it is the text of the host."""
        draws = random.Random(141)
        texts = [save_host(one) for seed in range(6) for one in played(random.Random(seed), ticks=20).hosts]
        texts += [text_of(*self.full()), save_host(connecting()), save_host(host(1))]
        loaded = 0
        for _ in range(4000):
            text = draws.choice(texts)
            for _ in range(draws.randrange(1, 3)):
                at = draws.randrange(len(text))
                if draws.random() < 0.7:
                    at = max(0, text.rfind(" ", 0, at) + 1)
                text = text[:at] + draws.choice(["", "0", "1", "2", "5 ", " ", "\n", "9", "1 0 "]) + \
                    text[at + draws.randrange(2):]
            try:
                given = load_host(text)
            except InvalidText:
                continue
            loaded += 1
            self.assertEqual(save_host(given), text)
        self.assertGreater(loaded, 300)


class KeptNumbersTest(unittest.TestCase):
    def check(self, *lines):
        text = text_of(*lines)
        self.assertEqual(save_host(load_host(text)), text)
        return load_host(text)

    def test_sockets_in_another_order(self):
        lines = [HEAD, f"1 {OPTIONS} 1 0 0 3 0"]
        found = self.check(*lines, *[str(count) + SOCKET[1:] + " " + ENDPOINT for count in (5, 9, 2)])
        self.assertEqual((found.sockets, found.counter), ([2, 5, 9], 1))
        self.check(*lines, *[str(count) + SOCKET[1:] + " " + ENDPOINT for count in (4, 4, 4)])

    def test_ranges_that_are_not_ranges(self):
        line = f"{SOCKET} {ENDPOINT}"
        sacked = f"{SOCKET} 0 100 0 0 1 0 0 1 0 0 0 0 0 "
        self.assertTrue(line.startswith(sacked + "0 "))
        for ranges in ("1 5 3", "1 5 5", "2 5 9 1 2", "2 5 9 7 12", "2 5 9 9 12", "3 0 0 0 0 0 0", "2 5 9 5 9"):
            found = self.check(HEAD, f"1 {OPTIONS} 1 0 0 1 0", sacked + ranges + line[len(sacked) + 1:])
            numbers = [int(word) for word in ranges.split(" ")[1:]]
            self.assertEqual(found.find(1).endpoint.sender.sacked, list(zip(numbers[::2], numbers[1::2])))
            self.assertEqual(save_host(found.fork()), save_host(found))

    def test_other_numbers_that_no_host_has(self):
        self.check(HEAD, f"70000 {OPTIONS} 4294967299 0 2 0 2", "0 0", "99999 1000", "1 70000 1 2 256 1000", "9 9 0 0")
        self.check(HEAD, f"1 {OPTIONS} 0 0 0 40 0", *[f"{SOCKET} {ENDPOINT}"] * 40)

    def test_packets(self):
        found = self.check(HEAD, f"1 {OPTIONS} 0 0 0 0 3", "1 2 1 2 7 8", "3 4 0 0", "1 2 0 1 255")
        self.assertEqual(found.take(), [Packet(1, 2, [7, 8], marked=True), Packet(3, 4, []), Packet(1, 2, [255])])


if __name__ == "__main__":
    unittest.main()
