import unittest

from throughline.host.packet import Packet
from throughline.net.records import Record


def record(tick=3, number=4, word="sent", packet=None):
    return Record(tick, number, word, Packet(1, 2, [5]) if packet is None else packet)


class RecordTest(unittest.TestCase):
    def test_fields(self):
        found = record()
        self.assertEqual((found.tick, found.number, found.word, found.packet), (3, 4, "sent", Packet(1, 2, [5])))

    def test_equality(self):
        self.assertTrue(record() == record())
        self.assertFalse(record() != record())
        others = [record(tick=4), record(number=3), record(word="lost"), record(packet=Packet(1, 2, [6])),
                  record(packet=Packet(1, 2, [5], marked=True)), record(packet=Packet(3, 2, [5])),
                  record(packet=Packet(1, 3, [5]))]
        for other in others:
            self.assertFalse(record() == other)
            self.assertTrue(record() != other)

    def test_it_equals_nothing_else(self):
        for other in (None, 3, "sent", (3, 4, "sent", Packet(1, 2, [5])), Packet(1, 2, [5])):
            self.assertFalse(record() == other)

    def test_the_packet_is_copied(self):
        packet = Packet(1, 2, [5])
        found = record(packet=packet)
        packet.octets.append(6)
        packet.marked = True
        self.assertEqual(found.packet, Packet(1, 2, [5]))

    def test_forks(self):
        found = record()
        other = found.fork()
        self.assertEqual(other, found)
        other.packet.octets.append(6)
        self.assertEqual(found.packet.octets, [5])


if __name__ == "__main__":
    unittest.main()
