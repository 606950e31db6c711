"""Point 185: which worker gets a packet. The fact of point 186 stands in test_flow_rows.py."""

import unittest

from flow_samples import HOST, ground
from onepolicy.packet_writing import write_packet
from onepolicy.steering import mixed, steered
from samples import MOST, OWN, PACKETS, PC, ROUTER, SERVER, calm, echo, failure, packet, tcp, udp, udp_stub


class Mixed(unittest.TestCase):
    def test_some_addresses(self):
        # 2654435761 is 9E3779B1 in hexadecimal.
        for address, due in ((0, 0), (1, 0x9E37), (2, 0x3C6E), (65536, 0x79B1), (MOST - 1, 0x61C8), (SERVER, 0x0311)):
            self.assertEqual(mixed(address), due, address)

    def test_bounds(self):
        for address in range(0, MOST, 99999989):
            self.assertTrue(0 <= mixed(address) <= 65535)
            self.assertEqual(mixed(address), (address * 2654435761 % MOST) // 65536)


class Steered(unittest.TestCase):
    def check(self, given, address):
        octets = write_packet(given)
        for workers in range(1, 5):
            due = 0 if address is None else mixed(address) % workers
            for value in (octets, tuple(octets)):
                self.assertEqual(calm(self, steered, ground(workers), value), due, (given, workers))

    def test_the_outside_address_counts(self):
        for body in (udp(), tcp(2), tcp(16), echo(), echo("answer")):
            for outside in (SERVER, SERVER + 1, ROUTER, 0x09FFFFFF, OWN - 1, OWN + 3):
                for other in (PC, HOST, OWN, OWN + 2):
                    self.check(packet(body, other, outside), outside)
                    self.check(packet(body, outside, other), outside)

    def test_the_lesser_of_two(self):
        for body in (udp(), echo("answer")):
            self.check(packet(body, SERVER, ROUTER), SERVER)
            self.check(packet(body, ROUTER, SERVER), SERVER)
            self.check(packet(body, SERVER, SERVER), SERVER)

    def test_none_outside(self):
        for source, target in ((PC, HOST), (PC, OWN), (OWN, OWN + 1), (OWN, PC), (PC, PC)):
            self.check(packet(udp(), source, target), None)

    def test_failures_go_by_what_they_quote(self):
        for source in (PC, ROUTER, SERVER, OWN):
            for target in (PC, SERVER + 9):
                self.check(packet(failure(stub=udp_stub()), source, target), SERVER)
                stub = udp_stub(source=ROUTER, target=SERVER + 5)
                self.check(packet(failure("exceeded", 0, 0, stub), source, target), SERVER + 5)

    def test_octets_that_are_no_packet(self):
        for given in PACKETS:
            octets = write_packet(given)
            for value in ([], octets[:-1], octets + [0], octets[:10] + [octets[10] ^ 1] + octets[11:], [0] * 60, [255] * 20):
                for workers in range(1, 5):
                    self.assertEqual(calm(self, steered, ground(workers), value), 0)
                    self.assertEqual(calm(self, steered, ground(workers), tuple(value)), 0)


if __name__ == "__main__":
    unittest.main()
