"""The names, the arguments and the places of the interface."""

import importlib
import inspect
import unittest

FUNCTIONS = {
    "throughline.wire.octets": ["write_number(number, size)", "read_number(octets)", "to_hex(octets)",
                                "from_hex(text)"],
    "throughline.wire.checksum": ["octet_sum(sender, target, octets)", "is_intact(sender, target, octets)",
                                  "checksum(sender, target, octets)"],
    "throughline.wire.options": ["fitted(segment)", "write_options(segment)", "read_options(octets)"],
    "throughline.wire.encoding": ["encode(sender, target, segment)", "decode(sender, target, octets)"],
    "throughline.offsets.circle": ["wrap(first, offset)", "unwrap(first, near, number)"],
    "throughline.offsets.ranges": ["add_range(ranges, start, stop)", "cut_below(ranges, limit)",
                                   "contains(ranges, offset)", "count_inside(ranges, start, stop)", "total(ranges)",
                                   "first_free(ranges, start)", "free_stop(ranges, start, stop)",
                                   "loss_edge(ranges, amount)"],
    "throughline.pace.round_trip": ["waits(timeout, count, *, most)"],
    "throughline.pace.deadlines": ["is_due(deadline, now)", "earliest(deadlines)"],
    "throughline.pace.roots": ["cube_root(number)"],
    "throughline.pace.cubic": ["curve(mss, origin, turning, at)", "turning_time(mss, depth)"],
    "throughline.endpoint.phases": ["open_phase(*, finished, answered, theirs)",
                                    "next_phase(phase, *, opened, finished, answered, theirs)"],
    "throughline.net.seeds": ["next_seed(seed)", "draw(seed, below)"],
    "throughline.net.rules": ["format_rule(rule)"],
    "throughline.net.scripts": ["parse_script(text)"],
    "throughline.net.deeds": ["check_deed(deed)"],
    "throughline.net.runs": ["run(net, script, *, seed, ticks)"],
    "throughline.carried.frames": ["write_frame(frame)", "first_frame(octets)"],
    "throughline.carried.messages": ["frame_message(octets)"],
    "throughline.records.packets": ["judge_packets(records, *, life)"],
    "throughline.records.judge": ["judge(records, *, life)", "streams(records)"],
    "throughline.records.writing": ["write_record(record)", "write_records(records)"],
    "throughline.records.reading": ["record_lines(text)", "read_record(line, *, number=1)", "read_records(text)"],
    "throughline.host.codes": ["write_sender(sender)", "write_receiver(receiver)", "write_trip(trip)",
                               "write_control(control)", "read_sender(reader, room)", "read_receiver(reader, room)",
                               "read_trip(reader, options)", "read_control(reader, options)"],
    "throughline.host.saved": ["save_host(host)", "load_host(text)"],
    "throughline.records.analysis": ["analyse(records)"],
}
# For each class: its parameters, its methods and its properties.
CLASSES = {
    "throughline.wire.segment.Segment": (
        "(source, target, *, seq, count, echo=None, ack=None, syn=False, fin=False, reset=False, marked=False, "
        "cut=False, window=0, mss=None, scale=None, ranges_known=False, ranges=(), stamp=None, data=())",
        ["__eq__(other)"], ["size"]),
    "throughline.host.options.Options": (
        "(*, mss, room, life, pace, tries, min_rto, max_rto, ack_delay=0, keep_alive=0, nagle=False, control='reno')",
        ["__eq__(other)"], ["patience", "shift", "resting"]),
    "throughline.offsets.sets.OffsetSet": (
        "(ranges=())",
        ["include(start, stop)", "discard_below(limit)", "count_between(start, stop)", "first_free(start)",
         "free_end(start, stop)", "loss_edge(amount)", "__iter__()", "__contains__(offset)", "__eq__(other)"],
        ["total"]),
    "throughline.offsets.piece.Piece": (
        "(start, *, data=(), syn=False, fin=False, reset=False, ack=None, window=0, ranges=(), marked=False, "
        "cut=False, stamp=None)",
        ["__eq__(other)"], ["size", "stop", "first_octet"]),
    "throughline.sending.sender.Sender": (
        "(room)",
        ["write(octets)", "finish()", "piece(start, size)", "mark_sent(piece)", "pipe(mss)",
         "next_piece(*, cwnd, mss, allow, nagle=False)", "first_piece(mss)",
         "acknowledge(ack, edge, ranges, *, empty, mss)", "time_out()"],
        ["flight", "unsent", "all_done", "free", "sacked"]),
    "throughline.receiving.receiver.Receiver": (
        "(room)",
        ["arrive(piece)", "read(count)", "advertise(mss)", "would_move(mss)", "held_ranges()"],
        ["ready", "end_taken", "at_end", "holds", "permitted"]),
    "throughline.pace.round_trip.RoundTrip": (
        "(least, most)", ["sample(trip)", "back_off()", "fork()"], ["round_ticks"]),
    "throughline.pace.control.Control": (
        "(mss)",
        ["acknowledge(mss, now, octets, *, flight, recovering)", "lose(mss, *, flight)", "time_out(mss, *, flight)",
         "mark(mss, now, *, flight, length)"],
        []),
    "throughline.pace.reno.Reno": ("(mss)", ["fork()"], []),
    "throughline.pace.cubic.Cubic": ("(mss)", ["fork()"], []),
    "throughline.endpoint.endpoint.Endpoint": (
        "(options, now)",
        ["answering(options, now, piece, *, mss, selective)", "write(octets)", "finish()", "read(count)", "abort()",
         "arrive(piece, now, *, marked=False, agreed=None)", "tick(now)", "output(now)"],
        ["has_ended", "is_open", "needs_answer", "flight", "timeout", "patience"]),
    "throughline.host.packet.Packet": (
        "(sender, target, octets, *, marked=False)", ["with_mark()", "__eq__(other)"], []),
    "throughline.host.socket.Socket": (
        "(count, port, peer, peer_port, endpoint, *, listened=False)",
        ["is_for(segment, sender)", "learn(segment)", "to_segment(piece)", "to_piece(segment)"], ["first"]),
    "throughline.host.host.Host": (
        "(address, options)",
        ["connect(port, peer, peer_port)", "listen(port, *, backlog=8)", "unlisten(port)", "accept(port)",
         "write(socket, octets)", "read(socket, count)", "finish(socket)", "abort(socket)", "release(socket)",
         "receive(packet)", "tick(now)", "take()", "restart()", "peer_of(socket)", "status(socket)", "find(count)",
         "fork()"],
        ["sockets"]),
    "throughline.net.rules.Rule": (
        "(fault, *, amount=0, until=0, sender=None, target=None, ticks=None, nth=None, chance=None)",
        ["considers(sender, target, birth)", "__eq__(other)"], []),
    "throughline.net.faults.Verdict": (
        "(*, lost=False, marked=False, copies=0, delay=1)", ["__eq__(other)"], ["arrivals"]),
    "throughline.net.faults.Faults": ("(rules, *, seed)", ["judge(sender, target, birth)"], []),
    "throughline.net.flights.Flight": ("(number, birth, packet)", ["__eq__(other)"], []),
    "throughline.net.flights.Flights": (
        "(life)",
        ["__len__()", "__iter__()", "send(packet, now)", "at(i)", "take(i)", "copy_of(i)", "mark(i)", "expire(now)",
         "find(number)"],
        []),
    "throughline.net.ledger.Ledger": (
        "()",
        ["note_write(host, socket, octets)", "note_read(host, socket, octets)", "note_finish(host, socket)",
         "written(host, socket)", "was_read(host, socket)", "has_finished(host, socket)", "__iter__()"],
        []),
    "throughline.net.records.Record": ("(tick, number, word, packet)", ["__eq__(other)"], []),
    "throughline.net.net.Net": (
        "(members)",
        ["do(deed)", "history()", "fork()", "other_end(host, socket)", "written(host, socket)",
         "was_read(host, socket)"],
        []),
    "throughline.carried.channels.Channels": (
        "(*, first, window, most)",
        ["__iter__()", "__len__()", "open_channel()", "accept()", "write(channel, octets)", "read(channel, count)",
         "finish(channel)", "reset(channel, code)", "status(channel)", "take(count)", "receive(octets)", "fork()"],
        []),
    "throughline.carried.messages.Messages": ("()", ["feed(octets)"], ["pending"]),
    "throughline.records.findings.Finding": ("(index, problem)", ["__eq__(other)"], []),
    "throughline.records.directions.Direction": ("(sender, source, target, target_port, count)", [], ["arrived"]),
    "throughline.host.codes.CodeReader": ("(numbers, line)", ["number()", "finish()"], []),
}


def parameters(function, *, without_first=False):
    found = list(inspect.signature(function).parameters.values())
    return str(inspect.Signature(found[1:] if without_first else found))


class InterfaceTest(unittest.TestCase):
    def test_functions(self):
        for place, lines in FUNCTIONS.items():
            module = importlib.import_module(place)
            for line in lines:
                with self.subTest(place, line=line):
                    name = line.split("(")[0]
                    function = getattr(module, name)
                    self.assertEqual(name + parameters(function), line)
                    self.assertEqual(function.__module__, place)

    def test_classes(self):
        for path, (made_with, methods, properties) in CLASSES.items():
            place, _, name = path.rpartition(".")
            kind = getattr(importlib.import_module(place), name)
            with self.subTest(path):
                self.assertEqual(kind.__module__, place)
                self.assertEqual(parameters(kind.__init__, without_first=True), made_with)
            for line in methods:
                with self.subTest(path, line=line):
                    method = vars(kind)[line.split("(")[0]]
                    if line.startswith("__"):
                        continue
                    method = getattr(method, "__func__", method)
                    self.assertEqual(line.split("(")[0] + parameters(method, without_first=True), line)
            for word in properties:
                with self.subTest(path, word=word):
                    self.assertIsInstance(vars(kind)[word], property)

    def test_answering_is_a_class_method(self):
        kind = importlib.import_module("throughline.endpoint.endpoint").Endpoint
        self.assertIsInstance(vars(kind)["answering"], classmethod)

    def test_generators(self):
        waits = importlib.import_module("throughline.pace.round_trip").waits
        history = importlib.import_module("throughline.net.net").Net.history
        record_lines = importlib.import_module("throughline.records.reading").record_lines
        for function in (waits, history, record_lines):
            self.assertTrue(inspect.isgeneratorfunction(function))

    def test_class_values(self):
        for path, name, value in (("throughline.net.net.Net", "MOST_HOSTS", 8),
                                  ("throughline.carried.channels.Channels", "MOST_CHANNELS", 100),
                                  ("throughline.pace.control.Control", "GREATEST", 1073741824)):
            place, _, kind = path.rpartition(".")
            self.assertEqual(vars(getattr(importlib.import_module(place), kind))[name], value)


if __name__ == "__main__":
    unittest.main()
