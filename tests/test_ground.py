"""Points 140 and 147: the ground, and the sides of packets."""

import random
import unittest

from onepolicy.ground import fault_ground, is_inside, is_own, side_of, wrong_side
from samples import MOST, OWN, PC, ROUTER, SERVER, calm, echo, echo_stub, failure, packet, tcp, tcp_stub, udp, udp_stub

TEN = (0x0A000000, 8)  # 10.0.0.0/8
HOME = (0xC0A80000, 16)  # 192.168.0.0/16
OWNS = (OWN, OWN + 1)


def ground(inside=(TEN, HOME), own=OWNS, workers=2):
    return ("ground", tuple(inside), tuple(own), workers)


def away_from(prefix):
    """Return a ground with one prefix, and an own address that it does not have."""
    return ground((prefix,), (0x01000001 if prefix[0] >> 24 > 1 else 0xDFFFFFFF,))


def is_plain_prefix(start, length):
    many = 2 ** (32 - length)
    firsts = range(start >> 24, (start + many - 1 >> 24) + 1)
    return start % many == 0 and all(octet in range(1, 224) and octet != 127 for octet in firsts)


def single(many, first=0x0A000000):
    """Return as many prefixes of one address each."""
    return tuple((first + number, 32) for number in range(many))


class Faults(unittest.TestCase):
    def check(self, value, due):
        self.assertEqual(calm(self, fault_ground, value), due, value)

    def test_right_ones(self):
        for value in (
            ground(), ground((TEN,)), ground(own=(OWN,)), ground(single(16)), ground(own=range(OWN, OWN + 64)),
            ground(((0x0A000000, 9), (0x0A800000, 9))), ground(((0x01000000, 32), (0xDFFFFFFF, 32))),
            ground(own=(0x01000000, 0x7EFFFFFF, 0x80000000, 0xDFFFFFFF)),
            ground(own=(0x09FFFFFF, 0x0B000000, 0xC0A7FFFF, 0xC0A90000)),
        ):
            self.check(value, None)

    def test_numbers_of_prefixes(self):
        for many in (0, 1, 2, 15, 16, 17, 40, 1000):
            self.check(ground(single(many)), None if 1 <= many <= 16 else "inside")

    def test_numbers_of_own_addresses(self):
        for many in (0, 1, 2, 63, 64, 65, 1000):
            self.check(ground(own=range(OWN, OWN + many)), None if 1 <= many <= 64 else "own")

    def test_workers(self):
        for workers in (-1, 0, 1, 2, 3, 4, 5, MOST):
            self.check(ground(workers=workers), None if 1 <= workers <= 4 else "workers")

    def test_lengths(self):
        for length in range(-2, 36):
            due = None if 1 <= length <= 32 else "inside"
            self.check(ground(((0x80000000, length),)), None if due is None and length > 1 else "inside")
        for length in (-100, 100):
            self.check(ground(((0x0A000000, length),)), "inside")

    def test_low_bits(self):
        for length in range(1, 33):
            for bit in range(32):
                for high in (0, 0x80000000, 0x40000000):
                    start = high | 1 << bit
                    with self.subTest((start, length)):
                        due = None if is_plain_prefix(start, length) else "inside"
                        self.check(away_from((start, length)), due)

    def test_prefixes_are_plain_throughout(self):
        for length in range(1, 11):
            many = 2 ** (32 - length)
            for start in range(0, MOST, many):
                with self.subTest((start, length)):
                    due = None if is_plain_prefix(start, length) else "inside"
                    self.check(away_from((start, length)), due)
        for first in (0, 127, 224, 255):
            for length in (9, 16, 31, 32):
                self.check(away_from((first << 24 | 1 << 32 - length, length)), "inside")

    def test_addresses_beyond(self):
        for start in (MOST, MOST + TEN[0], TEN[0] - MOST, -1):
            self.check(ground(((start, 8),)), "inside")
            self.check(ground(((start, 32),)), "inside")
            self.check(ground(own=(start,)), "own")
        self.check(ground((TEN, (MOST + HOME[0], 16))), "inside")

    def test_order(self):
        self.check(ground((HOME, TEN)), "inside")
        self.check(ground((TEN, TEN)), "inside")
        self.check(ground((TEN, HOME, HOME)), "inside")
        self.check(ground(own=(OWN + 1, OWN)), "own")
        self.check(ground(own=(OWN, OWN)), "own")
        self.check(ground(own=(OWN, OWN + 2, OWN + 1)), "own")

    def test_prefixes_that_meet(self):
        for length in range(2, 32):
            outer = (0x80000000, max(length, 3))
            for inner_length in range(outer[1] + 1, 33):
                last = outer[0] + 2 ** (32 - outer[1]) - 2 ** (32 - inner_length)
                for inner in ((outer[0], inner_length), (last, inner_length)):
                    self.check(ground((outer, inner)), "inside")
                behind = (outer[0] + 2 ** (32 - outer[1]), inner_length)
                self.check(ground((outer, behind)), None)
        self.check(ground((TEN, (0x0A010000, 16), HOME)), "inside")
        self.check(ground(((0x09000000, 8), TEN, (0x0AFFFFFF, 32))), "inside")

    def test_own_addresses_inside(self):
        for address in (0x0A000000, 0x0AFFFFFF, 0xC0A80000, 0xC0A8FFFF):
            self.check(ground(own=sorted((address, OWN))), "own")
        for address in (0, 0x00FFFFFF, 0x7F000000, 0x7FFFFFFF, 0xE0000000, MOST - 1):
            self.check(ground(own=(address,)), "own")
            self.check(ground(own=sorted((address, OWN))), "own")

    def test_the_first_fault_is_told(self):
        self.check(ground((), (), 0), "inside")
        self.check(ground((TEN,), (), 0), "own")
        self.check(ground((TEN,), (OWN,), 0), "workers")
        self.check(ground(((0, 77),), (5, 5), 0), "inside")


class Asked(unittest.TestCase):
    def test_inside(self):
        value = ground()
        for address, due in (
            (0x09FFFFFF, False), (0x0A000000, True), (0x0A123456, True), (0x0AFFFFFF, True), (0x0B000000, False),
            (0xC0A7FFFF, False), (0xC0A80000, True), (0xC0A8FFFF, True), (0xC0A90000, False), (OWN, False),
            (0, False), (MOST - 1, False),
        ):
            self.assertIs(calm(self, is_inside, value, address), due)

    def test_inside_of_every_length(self):
        draw = random.Random(140)
        for length in range(1, 33):
            many = 2 ** (32 - length)
            start = draw.randrange(2 ** length) * many
            value = ground(((start, length),))
            for address, due in ((start - 1, False), (start, True), (start + many - 1, True), (start + many, False)):
                self.assertIs(is_inside(value, address), due)

    def test_own(self):
        value = ground()
        for address, due in ((OWN - 1, False), (OWN, True), (OWN + 1, True), (OWN + 2, False), (PC, False)):
            self.assertIs(calm(self, is_own, value, address), due)


class Sides(unittest.TestCase):
    def check(self, value, wrong_out, wrong_in):
        for side, due in (("out", wrong_out), ("in", wrong_in)):
            with self.subTest((side, value)):
                self.assertIs(calm(self, wrong_side, ground(), side, value), due)

    def test_packets(self):
        for body in (udp(), tcp(), echo(), echo("answer")):
            self.check(packet(body, PC, SERVER), True, False)
            self.check(packet(body, PC, PC + 1), True, False)
            self.check(packet(body, PC, OWN), True, False)
            self.check(packet(body, SERVER, PC), False, True)
            self.check(packet(body, SERVER, SERVER), False, True)
            self.check(packet(body, SERVER, OWN), False, True)
            self.check(packet(body, OWN, PC), True, True)
            self.check(packet(body, OWN, SERVER), True, True)
            self.check(packet(body, OWN + 1, OWN), True, True)

    def test_the_source_of_the_way_of_failures(self):
        # The source of the way is the target of the stub.
        for make in (udp_stub, tcp_stub, echo_stub):
            for source, quoted, wrong_out, wrong_in in (
                (ROUTER, SERVER, False, True), (ROUTER, PC, True, True), (ROUTER, OWN, True, True),
                (PC, SERVER, True, True), (PC, PC, True, False), (PC, PC + 1, True, False), (PC, OWN, True, True),
                (OWN, SERVER, True, True), (OWN, PC, True, True), (OWN, OWN, True, True),
            ):
                stub = make(source=SERVER + 1, target=quoted)
                self.check(packet(failure(stub=stub), source, PC), wrong_out, wrong_in)
                stub = make(source=PC + 9, target=quoted)
                self.check(packet(failure(stub=stub), source, SERVER), wrong_out, wrong_in)

    def test_the_side_to_which_it_is_sent(self):
        for target, side in (
            (PC, "in"), (SERVER, "out"), (OWN, "out"), (0x0A000000, "in"), (0x0AFFFFFF, "in"), (0x0B000000, "out"),
            (0xC0A80000, "in"), (0xC0A90000, "out"),
        ):
            for body in (udp(), tcp(), echo(), failure(), failure(stub=udp_stub(SERVER, PC))):
                for source in (PC, SERVER, OWN):
                    self.assertEqual(calm(self, side_of, ground(), packet(body, source, target)), side)


if __name__ == "__main__":
    unittest.main()
