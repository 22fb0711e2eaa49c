import unittest

from throughline.host.packet import Packet


class PacketTest(unittest.TestCase):
    def test_fields(self):
        packet = Packet(1, 65535, [0, 255], marked=True)
        self.assertEqual((packet.sender, packet.target, packet.octets, packet.marked), (1, 65535, [0, 255], True))
        self.assertIs(Packet(1, 2, []).marked, False)

    def test_the_octets_are_its_own(self):
        octets = [1, 2, 3]
        packet = Packet(1, 2, octets)
        octets.append(4)
        self.assertEqual(packet.octets, [1, 2, 3])
        packet.octets.append(5)
        self.assertEqual(octets, [1, 2, 3, 4])

    def test_with_mark(self):
        packet = Packet(1, 2, [3, 4])
        marked = packet.with_mark()
        self.assertIsInstance(marked, Packet)
        self.assertEqual(marked, Packet(1, 2, [3, 4], marked=True))
        self.assertEqual(packet, Packet(1, 2, [3, 4]))
        marked.octets.append(5)
        self.assertEqual(packet.octets, [3, 4])

    def test_with_mark_of_one_that_is_marked(self):
        packet = Packet(1, 2, [3, 4], marked=True)
        marked = packet.with_mark()
        self.assertEqual(marked, packet)
        self.assertIsNot(marked, packet)

    def test_equality(self):
        self.assertTrue(Packet(1, 2, [3], marked=True) == Packet(1, 2, [3], marked=True))
        self.assertFalse(Packet(1, 2, [3]) != Packet(1, 2, [3]))
        for other in (Packet(0, 2, [3]), Packet(1, 3, [3]), Packet(1, 2, [4]), Packet(1, 2, [3, 3]), Packet(1, 2, []),
                      Packet(1, 2, [3], marked=True), Packet(2, 1, [3])):
            self.assertFalse(Packet(1, 2, [3]) == other)
            self.assertTrue(Packet(1, 2, [3]) != other)
        for other in ((1, 2, [3], False), None, 1, [3]):
            self.assertFalse(Packet(1, 2, [3]) == other)


if __name__ == "__main__":
    unittest.main()
