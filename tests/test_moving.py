"""Point 170: failures that are sent on."""

import unittest

from onepolicy.moving import moved_failure
from onepolicy.stubs import is_stub
from onepolicy.ways import moved_stub, turned, way_of, way_of_stub
from samples import (OWN, PC, ROUTER, SERVER, calm, echo_stub, failure, packet, tcp_stub, udp_stub)

GROUND = ("ground", ((0x0A000000, 8),), (OWN, OWN + 1), 1)
GATE = PC + 200


def ways(kind):
    """Return the two ways of a flow of an inside host behind an own end: as it comes inside, and outside."""
    if kind == "echo":
        return ("echo", PC, 77, SERVER, 0), ("echo", OWN, 40000, SERVER, 0)
    return (kind, PC, 5000, SERVER, 80), (kind, OWN, 40000, SERVER, 80)


def stub_by(way, **fields):
    make = {"udp": udp_stub, "tcp": tcp_stub, "echo": echo_stub}[way[0]]
    if way[0] == "echo" and way[2] == 0:
        return moved_stub(echo_stub("answer", **fields), way)
    return moved_stub(make(**fields), way)


class Failures(unittest.TestCase):
    def test_from_outside_about_what_the_inside_sent(self):
        for kind in ("udp", "tcp", "echo"):
            inner, outer = ways(kind)
            # It comes by the way of answers, and goes out by that way inside.
            way, out = turned(outer), turned(inner)
            for source, due in ((ROUTER, ROUTER), (SERVER, SERVER), (GATE, SERVER)):
                value = packet(failure("exceeded", 0, 0, stub_by(outer)), source, OWN, 9, 8, 7, 0)
                self.assertEqual(way_of(value), way)
                found = calm(self, moved_failure, GROUND, value, way, out)
                stub = moved_stub(stub_by(outer), inner)
                self.assertEqual(found, packet(failure("exceeded", 0, 0, stub), due, PC, 8, 8, 7, 0))
                self.assertEqual(way_of(found), out)

    def test_from_inside_about_what_the_outside_sent(self):
        for kind in ("udp", "tcp", "echo"):
            inner, outer = ways(kind)
            way, out = inner, outer
            for source in (PC, GATE):
                quoted = stub_by(turned(inner))
                value = packet(failure("unreachable", 4, 1400, quoted), source, SERVER, 255, 1, 2, 1)
                self.assertEqual(way_of(value), way)
                found = calm(self, moved_failure, GROUND, value, way, out)
                stub = moved_stub(quoted, turned(outer))
                self.assertEqual(found, packet(failure("unreachable", 4, 1400, stub), OWN, SERVER, 254, 1, 2, 1))
                self.assertEqual(way_of(found), out)

    def test_each_source(self):
        way, out = ("udp", SERVER, 80, OWN, 40000), ("udp", OWN + 1, 9, PC, 5000)
        for source, due in (
            (SERVER, OWN + 1), (SERVER + 1, SERVER + 1), (OWN, OWN), (OWN + 1, OWN + 1), (PC, OWN + 1),
            (0x0A000000, OWN + 1), (0x0AFFFFFF, OWN + 1), (0x09FFFFFF, 0x09FFFFFF), (0x0B000000, 0x0B000000),
        ):
            value = packet(failure(stub=stub_by(turned(way))), source, OWN)
            found = calm(self, moved_failure, GROUND, value, way, out)
            self.assertEqual(found[1:4], (due, PC, 63))

    def test_the_target_is_that_of_the_way_out(self):
        way, out = ("udp", SERVER, 80, OWN, 40000), ("udp", SERVER, 80, PC, 5000)
        for target in (OWN, OWN + 1, SERVER):
            value = packet(failure(stub=stub_by(turned(way))), ROUTER, target)
            self.assertEqual(moved_failure(GROUND, value, way, out)[2], PC)

    def test_stubs_and_their_sums(self):
        way, out = ("udp", SERVER, 80, OWN, 40000), ("udp", SERVER, 80, PC, 5000)
        for total in (0, 1, 65534, 65535):
            quoted = moved_stub(udp_stub(), turned(way))
            quoted = quoted[:8] + (quoted[8][:3] + (total,),)
            value = packet(failure(stub=quoted), ROUTER, OWN)
            found = calm(self, moved_failure, GROUND, value, way, out)[7][4]
            self.assertEqual(way_of_stub(found), turned(out))
            self.assertTrue(is_stub(found))
            self.assertEqual(found, moved_stub(quoted, turned(out)))
            self.assertEqual(found[8][3] == 0, total == 0)

    def test_one_hop_less(self):
        way, out = ("udp", SERVER, 80, OWN, 40000), ("udp", SERVER, 80, PC, 5000)
        for hops in (255, 2, 1):
            value = packet(failure(stub=stub_by(turned(way))), ROUTER, OWN, hops)
            self.assertEqual(moved_failure(GROUND, value, way, out)[3], hops - 1)


if __name__ == "__main__":
    unittest.main()
