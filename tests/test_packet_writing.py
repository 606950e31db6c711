"""Points 105 and 106: written packets."""

import random
import unittest

from onepolicy.errors import Beyond
from onepolicy.packet_writing import write_packet
from onepolicy.stubs import write_stub
from samples import PACKETS, calm, echo, failure, folded_by_carries, packet, tcp, udp, udp_stub

SOURCE = [10, 0, 0, 5]
TARGET = [8, 8, 8, 8]


class Headers(unittest.TestCase):
    def test_told_headers(self):
        for body, protocol, many in (
            (udp(), 17, 31), (tcp(), 6, 40), (echo(), 1, 30), (failure(), 1, 56), (udp(data=[0] * 1472), 17, 1500),
        ):
            octets = calm(self, write_packet, packet(body, hops=7, name=0x0203, service=9))
            self.assertEqual(octets[:10], [69, 9, many // 256, many % 256, 2, 3, 64, 0, 7, protocol])
            self.assertEqual(octets[12:20], SOURCE + TARGET)
            self.assertEqual(len(octets), many)

    def test_whole(self):
        self.assertEqual(write_packet(packet(udp(), whole=0))[6:8], [0, 0])
        self.assertEqual(write_packet(packet(udp(), whole=1))[6:8], [64, 0])

    def test_a_known_header(self):
        value = packet(udp(data=[0] * 87), 0xC0A80001, 0xC0A800C7, 64, 0, 0, 1)
        header = [0x45, 0, 0, 0x73, 0, 0, 0x40, 0, 0x40, 0x11, 0xB8, 0x61, 0xC0, 0xA8, 0, 1, 0xC0, 0xA8, 0, 0xC7]
        self.assertEqual(write_packet(value)[:20], header)

    def test_sums_of_headers(self):
        for value in PACKETS:
            octets = write_packet(value)
            self.assertEqual(folded_by_carries(octets[:20]), 65535)
            self.assertNotEqual(octets[10:12], [255, 255])


class Bodies(unittest.TestCase):
    def check_sum(self, octets, protocol, place):
        body = octets[20:]
        start = octets[12:20] + [0, protocol] + list(divmod(len(body), 256)) if protocol != 1 else []
        blank = body[:place] + [0, 0] + body[place + 2:]
        due = 65535 - folded_by_carries(start + blank)
        if protocol == 17 and due == 0:
            due = 65535
        self.assertEqual(body[place:place + 2], list(divmod(due, 256)))

    def test_udp(self):
        octets = calm(self, write_packet, packet(udp(0x0102, 0x0304, 1, [5, 6, 7])))
        self.assertEqual(octets[20:26] + octets[28:], [1, 2, 3, 4, 0, 11, 5, 6, 7])
        self.check_sum(octets, 17, 6)

    def test_udp_without_a_sum(self):
        octets = write_packet(packet(udp(0x0102, 0x0304, 0, [5, 6, 7])))
        self.assertEqual(octets[20:], [1, 2, 3, 4, 0, 11, 0, 0, 5, 6, 7])

    def test_udp_with_a_sum_of_0(self):
        found = []
        for low in range(65536):
            octets = write_packet(packet(udp(data=(low // 256, low % 256))))
            if octets[26:28] == [255, 255]:
                found.append(octets)
            self.assertNotEqual(octets[26:28], [0, 0])
        self.assertTrue(found)
        for octets in found:
            self.check_sum(octets, 17, 6)

    def test_tcp(self):
        value = tcp(0x5A, 0x01020304, 0xFFFEFDFC, 0x0506, 0x0708, [3, 3, 2, 0], [9, 8, 7], 0x1112, 0x1314)
        octets = calm(self, write_packet, packet(value))
        start = [0x11, 0x12, 0x13, 0x14, 1, 2, 3, 4, 255, 254, 253, 252, 96, 0x5A, 5, 6]
        self.assertEqual(octets[20:36] + octets[38:], start + [7, 8, 3, 3, 2, 0, 9, 8, 7])
        self.check_sum(octets, 6, 16)

    def test_tcp_with_options_of_each_length(self):
        for quads in range(11):
            octets = write_packet(packet(tcp(options=[1] * 4 * quads, data=[2])))
            self.assertEqual(octets[32], 16 * (5 + quads))
            self.assertEqual(octets[40:], [1] * 4 * quads + [2])

    def test_a_sum_of_0_of_tcp_and_echo_is_written(self):
        for body, place, protocol, at in ((tcp, 16, 6, 36), (echo, 2, 1, 22)):
            many = 0
            for low in range(65536):
                octets = write_packet(packet(body(data=(low // 256, low % 256))))
                self.assertNotEqual(octets[at:at + 2], [255, 255])
                if octets[at:at + 2] == [0, 0]:
                    many += 1
                    self.check_sum(octets, protocol, place)
            self.assertGreater(many, 0)

    def test_echo(self):
        for way, kind in (("ask", 8), ("answer", 0)):
            octets = calm(self, write_packet, packet(echo(way, 0x0102, 0x0304, [5, 6, 7])))
            self.assertEqual(octets[20:22] + octets[24:], [kind, 0, 1, 2, 3, 4, 5, 6, 7])
            self.check_sum(octets, 1, 2)

    def test_failures(self):
        for kind, code, room, first in (
            ("unreachable", 0, 0, 3), ("unreachable", 4, 0x0506, 3), ("unreachable", 15, 0, 3), ("exceeded", 1, 0, 11),
        ):
            octets = calm(self, write_packet, packet(failure(kind, code, room, udp_stub())))
            rest = [first, code, 0, 0, room // 256, room % 256]
            self.assertEqual(octets[20:22] + octets[24:], rest + write_stub(udp_stub()))
            self.check_sum(octets, 1, 2)

    def test_sums_of_all_kinds(self):
        draw = random.Random(106)
        for _ in range(300):
            data = [draw.choice([0, 255, draw.randrange(256)]) for _ in range(draw.randrange(30))]
            body, protocol, place = draw.choice([(udp, 17, 6), (tcp, 6, 16), (echo, 1, 2)])
            octets = write_packet(packet(body(data=data), draw.randrange(2 ** 24, 2 ** 25), draw.randrange(1, 2 ** 23) + 2 ** 31))
            self.check_sum(octets, protocol, place)

    def test_a_new_list_each_time(self):
        value = packet(udp())
        octets = write_packet(value)
        octets.clear()
        self.assertEqual(len(write_packet(value)), 31)


class Wrong(unittest.TestCase):
    def test_faults_are_told(self):
        for value, field in (
            (packet(udp(), source=0), "source"), (packet(udp(source_port=0)), "from"),
            (packet(udp(data=[1] * 1473)), "size"), (packet(failure("exceeded", 2)), "code"),
        ):
            with self.assertRaises(Beyond) as caught:
                calm(self, write_packet, value)
            self.assertEqual(caught.exception.field, field)


if __name__ == "__main__":
    unittest.main()
