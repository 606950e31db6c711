"""Points 104 and 107: stubs."""

import random
import unittest

from onepolicy.octets import sum_number
from onepolicy.packet_writing import stub_of, write_packet
from onepolicy.stubs import is_stub, read_stub, write_stub
from samples import MOST, PACKETS, STUBS, calm, echo, echo_stub, packet, put, stub, tcp, tcp_stub, udp, udp_stub

HEADER = (
    ([3], 0, 255), ([4], 0, 65535), ([5], 0, 255), ([6], 0, 1),
)
PORTS = (([8, 1], 1, 65535), ([8, 2], 1, 65535))
FIELDS = (
    (udp_stub(), HEADER + PORTS + (([7], 28, 1500), ([8, 3], 0, 65535))),
    (tcp_stub(), HEADER + PORTS + (([7], 40, 1500), ([8, 3], 0, MOST - 1))),
    (echo_stub(), HEADER + (([7], 28, 1500), ([8, 2], 1, 65535), ([8, 3], 0, 65535), ([8, 4], 0, 65535))),
    (echo_stub("answer"), HEADER + (([7], 28, 1500), ([8, 2], 1, 65535), ([8, 3], 0, 65535), ([8, 4], 0, 65535))),
)


def with_header_sum(octets):
    """Return octets whose header has the due sum."""
    total = sum_number(octets[:10] + octets[12:20])
    return octets[:10] + [total // 256, total % 256] + octets[12:]


class IsStub(unittest.TestCase):
    def test_each_field_at_its_bounds_and_beyond(self):
        for value, fields in FIELDS:
            for path, least, greatest in fields:
                for number in (least, greatest):
                    with self.subTest((value[8][0], path, number)):
                        self.assertIs(calm(self, is_stub, put(value, path, number)), True)
                for number in (least - 1, greatest + 1, least - MOST, greatest + MOST):
                    with self.subTest((value[8][0], path, number)):
                        self.assertIs(calm(self, is_stub, put(value, path, number)), False)

    def test_addresses(self):
        for path in ([1], [2]):
            for address in (0x01000000, 0x7EFFFFFF, 0x80000000, 0xDFFFFFFF):
                self.assertTrue(is_stub(put(udp_stub(), path, address)))
            for address in (0, 0xFFFFFF, 0x7F000000, 0x7FFFFFFF, 0xE0000000, MOST, MOST + 0x0A000001, -1):
                self.assertFalse(is_stub(put(udp_stub(), path, address)))

    def test_sizes(self):
        for size in (27, 28, 39, 40, 1500, 1501):
            self.assertIs(is_stub(udp_stub(size=size)), 28 <= size <= 1500)
            self.assertIs(is_stub(echo_stub(size=size)), 28 <= size <= 1500)
            self.assertIs(is_stub(tcp_stub(size=size)), 40 <= size <= 1500)


class WriteStub(unittest.TestCase):
    def test_told_octets(self):
        header = [69, 3, 0, 60, 18, 52, 64, 0, 63, 17, 0, 0, 10, 0, 0, 5, 8, 8, 8, 8]
        for value, protocol, rest in (
            (udp_stub(service=3), 17, [0x9C, 0x40, 0, 53, 0, 40, 0xAB, 0xCD]),
            (tcp_stub(seq=0x01020304, service=3), 6, [0x9C, 0x40, 0, 80, 1, 2, 3, 4]),
            (echo_stub(service=3), 1, [8, 0, 0x12, 0x34, 0, 77, 0, 1]),
            (echo_stub("answer", 0x0102, 0x0304, service=3), 1, [0, 0, 0x12, 0x34, 1, 2, 3, 4]),
        ):
            with self.subTest(value):
                due = with_header_sum(header[:9] + [protocol] + header[10:])
                self.assertEqual(calm(self, write_stub, value), due + rest)

    def test_a_header_with_other_fields(self):
        value = udp_stub(source=0x01020304, target=0xDFFEFDFC, hops=0, name=0xFEDC, service=255, whole=0, size=1500)
        header = [69, 255, 5, 220, 0xFE, 0xDC, 0, 0, 0, 17, 0, 0, 1, 2, 3, 4, 0xDF, 0xFE, 0xFD, 0xFC]
        self.assertEqual(write_stub(value)[:20], with_header_sum(header))
        self.assertEqual(write_stub(value)[24:26], [5, 200])


class ReadStub(unittest.TestCase):
    def test_there_and_back(self):
        for value in STUBS:
            with self.subTest(value):
                octets = write_stub(value)
                self.assertEqual(len(octets), 28)
                self.assertEqual(calm(self, read_stub, octets), value)

    def test_bounds_there_and_back(self):
        for value, fields in FIELDS:
            for path, least, greatest in fields:
                for number in (least, greatest):
                    found = put(value, path, number)
                    self.assertEqual(read_stub(write_stub(found)), found)

    def test_other_numbers_of_octets(self):
        for value in STUBS:
            octets = write_stub(value)
            for length in (0, 1, 8, 19, 20, 27):
                self.assertIsNone(calm(self, read_stub, octets[:length]))
            self.assertIsNone(calm(self, read_stub, octets + [0]))
            self.assertIsNone(calm(self, read_stub, octets + octets))

    def test_other_octets_of_the_header(self):
        # Each change but that of the sum itself comes with the due sum.
        for value in STUBS:
            octets = write_stub(value)
            for at, octet in (
                (0, 70), (0, 68), (0, 85), (2, 6), (6, 128), (6, 192), (6, 1), (6, 65), (6, 32), (7, 1), (9, 0), (9, 2),
                (9, 255), (12, 0), (12, 127), (12, 224), (16, 0), (16, 127), (16, 255),
            ):
                changed = octets[:at] + [octet] + octets[at + 1:]
                with self.subTest((value, at, octet)):
                    self.assertIsNone(read_stub(with_header_sum(changed)))
            for at in (10, 11):
                self.assertIsNone(read_stub(octets[:at] + [octets[at] ^ 1] + octets[at + 1:]))

    def test_other_octets_behind_the_header(self):
        for value, rest in (
            (udp_stub(), [0x9C, 0x40, 0, 53, 0, 41, 0xAB, 0xCD]), (udp_stub(), [0, 0, 0, 53, 0, 40, 0xAB, 0xCD]),
            (udp_stub(), [0x9C, 0x40, 0, 0, 0, 40, 0xAB, 0xCD]), (udp_stub(), [0x9C, 0x40, 0, 53, 1, 40, 0xAB, 0xCD]),
            (tcp_stub(), [0, 0, 0, 80, 1, 2, 3, 4]), (tcp_stub(), [0x9C, 0x40, 0, 0, 1, 2, 3, 4]),
            (echo_stub(), [8, 1, 0, 0, 0, 77, 0, 1]), (echo_stub(), [0, 1, 0, 0, 0, 77, 0, 1]),
            (echo_stub(), [3, 0, 0, 0, 0, 77, 0, 1]), (echo_stub(), [11, 0, 0, 0, 0, 77, 0, 1]),
            (echo_stub(), [8, 0, 0, 0, 0, 0, 0, 1]), (echo_stub(), [4, 0, 0, 0, 0, 77, 0, 1]),
        ):
            with self.subTest(rest):
                self.assertIsNone(read_stub(write_stub(value)[:20] + rest))

    def test_sizes(self):
        for value, least in ((udp_stub(), 28), (tcp_stub(), 40), (echo_stub(), 28)):
            for size in (0, 27, 28, 39, 40, 1500, 1501, 65535):
                octets = with_header_sum(write_stub(put(value, [7], size)))
                if value[8][0] == "udp" and size < 28:
                    octets[24:26] = [0, 8]
                found = read_stub(octets)
                self.assertEqual(found, put(value, [7], size) if least <= size <= 1500 else None)

    def test_whatever_is_read_is_written_as_it_was(self):
        draw = random.Random(107)
        read = 0
        for _ in range(4000):
            octets = write_stub(draw.choice(STUBS))
            for _ in range(draw.randrange(3)):
                octets[draw.randrange(28)] = draw.choice([0, 1, 6, 8, 17, 64, 69, draw.randrange(256)])
            octets = with_header_sum(octets) if draw.randrange(4) else octets
            found = read_stub(octets)
            if found is not None:
                read += 1
                self.assertTrue(is_stub(found))
                self.assertEqual(write_stub(found), octets)
        self.assertGreater(read, 500)


class StubOf(unittest.TestCase):
    def test_told_stubs(self):
        for body, part in (
            (udp(), ("udp", 40000, 53)), (tcp(seq=7), ("tcp", 40000, 80, 7)), (echo(), ("echo", "ask", 77, 1)),
            (echo("answer", 5, 6), ("echo", "answer", 5, 6)),
        ):
            value = packet(body, hops=9, name=8, service=7, whole=0)
            found = calm(self, stub_of, value)
            self.assertEqual(found[:8], ("stub",) + value[1:7] + (len(write_packet(value)),))
            self.assertEqual(found[8][:len(part)], part)
            self.assertTrue(is_stub(found))

    def test_it_is_the_beginning_of_the_written_packet(self):
        draw = random.Random(104)
        values = [value for value in PACKETS if value[7][0] != "failure"]
        for _ in range(300):
            data = [draw.choice([0, 255, draw.randrange(256)]) for _ in range(draw.randrange(12))]
            values.append(packet(draw.choice([udp, tcp, echo])(data=data), whole=draw.randrange(2)))
        for value in values:
            with self.subTest(value):
                octets = write_packet(value)
                self.assertEqual(write_stub(stub_of(value)), octets[:28])

    def test_a_sum_that_is_not_there_is_0(self):
        self.assertEqual(stub_of(packet(udp(summed=0)))[8], ("udp", 40000, 53, 0))

    def test_a_sum_of_0_of_udp_is_65535(self):
        for low in range(65536):
            value = packet(udp(data=(low // 256, low % 256)))
            if stub_of(value)[8][3] == 65535:
                self.assertEqual(write_packet(value)[26:28], [255, 255])
                return
        self.fail("no such sum")


if __name__ == "__main__":
    unittest.main()
