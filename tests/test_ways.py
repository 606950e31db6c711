"""Points 120 to 122: ways."""

import random
import unittest

from onepolicy.packet_writing import stub_of, write_packet
from onepolicy.stubs import read_stub, write_stub
from onepolicy.ways import moved, moved_stub, turned, way_of, way_of_stub
from samples import (PACKETS, PC, SERVER, STUBS, calm, echo, echo_stub, failure, packet, put, tcp, tcp_stub, udp,
                     udp_stub)

OTHER = 0xC0A80A0B  # 192.168.10.11
MORE = 0x01FE02FD  # 1.254.2.253
HIGH = 0xC0A8FFFE  # 192.168.255.254


def ways_like(way):
    """Return ways of the kind of a way, with the 0 of an echo at the same end."""
    kind, _, source_port, _, target_port = way
    rows = []
    for source, target in ((OTHER, MORE), (PC, MORE), (SERVER, PC), (MORE, MORE), (HIGH, HIGH - 1)):
        for port in (1, 255, 256, 40000, 65535):
            rows.append((kind, source, port if source_port else 0, target, (port * 7 % 65535 or 9) if target_port else 0))
    return rows + [way]


class Ways(unittest.TestCase):
    def test_told_ways(self):
        for body, way in (
            (udp(1, 65535), ("udp", PC, 1, SERVER, 65535)), (tcp(), ("tcp", PC, 40000, SERVER, 80)),
            (echo("ask", 5), ("echo", PC, 5, SERVER, 0)), (echo("answer", 5), ("echo", PC, 0, SERVER, 5)),
        ):
            with self.subTest(body):
                self.assertEqual(calm(self, way_of, packet(body)), way)
                if body[0] != "tcp" or body[9] == ():
                    self.assertEqual(calm(self, way_of_stub, stub_of(packet(body))), way)

    def test_the_way_of_a_failure_is_that_of_its_stub_turned(self):
        for stub, way in (
            (udp_stub(), ("udp", SERVER, 53, PC, 40000)), (tcp_stub(), ("tcp", SERVER, 80, PC, 40000)),
            (echo_stub(), ("echo", SERVER, 0, PC, 77)), (echo_stub("answer"), ("echo", SERVER, 77, PC, 0)),
        ):
            for kind in ("unreachable", "exceeded"):
                value = packet(failure(kind, 1, 0, stub), OTHER, MORE)
                self.assertEqual(calm(self, way_of, value), way)
                self.assertEqual(way_of_stub(stub), turned(way))

    def test_turned(self):
        way = ("udp", PC, 1, SERVER, 2)
        self.assertEqual(calm(self, turned, way), ("udp", SERVER, 2, PC, 1))
        self.assertEqual(turned(("echo", PC, 5, SERVER, 0)), ("echo", SERVER, 0, PC, 5))
        self.assertEqual(turned(turned(way)), way)


class Moved(unittest.TestCase):
    def test_told_packets(self):
        way = ("udp", OTHER, 7, MORE, 8)
        value = packet(udp(summed=0), hops=3, name=4, service=5, whole=0)
        due = ("packet", OTHER, MORE, 3, 4, 5, 0, ("udp", 7, 8, 0, (1, 2, 3)))
        self.assertEqual(calm(self, moved, value, way), due)
        value = packet(tcp(24, options=[1, 1, 1, 0], data=[9]))
        due = packet(tcp(24, options=[1, 1, 1, 0], data=[9], source_port=7, target_port=8), OTHER, MORE)
        self.assertEqual(calm(self, moved, value, ("tcp",) + way[1:]), due)
        found = calm(self, moved, packet(echo()), ("echo", OTHER, 7, MORE, 0))
        self.assertEqual(found, packet(echo("ask", 7), OTHER, MORE))
        found = calm(self, moved, packet(echo("answer")), ("echo", OTHER, 0, MORE, 7))
        self.assertEqual(found, packet(echo("answer", 7), OTHER, MORE))

    def test_the_moved_one_has_this_way_and_moved_back_it_is_the_old_one(self):
        for value in PACKETS:
            if value[7][0] == "failure":
                continue
            way = way_of(value)
            for other in ways_like(way):
                found = calm(self, moved, value, other)
                self.assertEqual(way_of(found), other)
                self.assertEqual(moved(found, way), value)


class MovedStubs(unittest.TestCase):
    def test_told_stubs(self):
        way = ("tcp", OTHER, 7, MORE, 8)
        found = calm(self, moved_stub, tcp_stub(hops=1, name=2, service=3, whole=0, size=44), way)
        self.assertEqual(found, ("stub", OTHER, MORE, 1, 2, 3, 0, 44, ("tcp", 7, 8, 1000)))
        # The ident 77 becomes 78, so the sum becomes one less.
        found = calm(self, moved_stub, echo_stub(), ("echo", OTHER, 78, MORE, 0))
        self.assertEqual(found, echo_stub("ask", 78, 1, 0x1233, source=OTHER, target=MORE))
        found = calm(self, moved_stub, echo_stub("answer"), ("echo", OTHER, 0, MORE, 78))
        self.assertEqual(found, echo_stub("answer", 78, 1, 0x1233, source=OTHER, target=MORE))

    def test_each_pair_of_udp_counts(self):
        for place, step in ((1, 1), (1, 65536), (2, 1), (3, 1), (3, 65536), (4, 1)):
            way = put(("udp", PC, 40000, SERVER, 53), [place], ("udp", PC, 40000, SERVER, 53)[place] + step)
            self.assertEqual(moved_stub(udp_stub(total=500), way)[8][3], 499)

    def test_sums_of_stubs_are_those_of_moved_packets(self):
        draw = random.Random(121)
        for _ in range(400):
            data = [draw.choice([0, 255, draw.randrange(256)]) for _ in range(draw.randrange(6))]
            body = draw.choice([udp, tcp, echo])(data=data)
            body = body if body[0] != "echo" else draw.choice([body, put(body, [1], "answer")])
            value = packet(body)
            for way in ways_like(way_of(value)):
                found = moved_stub(stub_of(value), way)
                self.assertEqual(found, stub_of(moved(value, way)))
                self.assertEqual(write_stub(found), write_packet(moved(value, way))[:28])

    def test_a_sum_of_0(self):
        way = ("udp", OTHER, 7, MORE, 8)
        self.assertEqual(moved_stub(udp_stub(total=0), way)[8], ("udp", 7, 8, 0))
        # An ident that is one greater takes one from the sum, which goes around.
        self.assertEqual(moved_stub(echo_stub(total=0), ("echo", PC, 78, SERVER, 0))[8][4], 65534)
        self.assertEqual(moved_stub(echo_stub(total=1), ("echo", PC, 78, SERVER, 0))[8][4], 0)
        self.assertEqual(moved_stub(echo_stub(total=0), ("echo", PC, 77, SERVER, 0))[8][4], 0)

    def test_a_sum_of_65535(self):
        self.assertEqual(moved_stub(echo_stub(total=65535), ("echo", PC, 77, SERVER, 0))[8][4], 0)
        self.assertEqual(moved_stub(echo_stub(total=65535), ("echo", PC, 78, SERVER, 0))[8][4], 65534)
        self.assertEqual(moved_stub(udp_stub(total=65535), ("udp", PC, 40000, SERVER, 53))[8][3], 65535)
        self.assertEqual(moved_stub(udp_stub(total=1), ("udp", PC, 40000, SERVER, 54))[8][3], 65535)
        self.assertEqual(moved_stub(udp_stub(total=65535), ("udp", PC, 40000, SERVER, 54))[8][3], 65534)

    def test_any_sum_goes_there_and_back(self):
        totals = [0, 1, 2, 255, 256, 32767, 32768, 65533, 65534, 65535]
        values = [udp_stub(total=total) for total in totals] + [tcp_stub()]
        values += [echo_stub(way, total=total) for total in totals for way in ("ask", "answer")]
        for value in values + list(STUBS):
            way = way_of_stub(value)
            for other in ways_like(way):
                found = calm(self, moved_stub, value, other)
                self.assertEqual(way_of_stub(found), other)
                self.assertEqual(read_stub(write_stub(found)), found)
                due = put(value, [8, 4], 0) if value[8][0] == "echo" and value[8][4] == 65535 else value
                self.assertEqual(moved_stub(found, way), due)


if __name__ == "__main__":
    unittest.main()
