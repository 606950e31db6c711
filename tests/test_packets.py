"""Points 103 and 108: packets and their faults."""

import unittest

from onepolicy.errors import Beyond
from onepolicy.packet_writing import write_packet
from onepolicy.packets import fault, size_of
from samples import MOST, PACKETS, calm, echo, failure, packet, put, tcp, tcp_stub, udp, udp_stub

# For each field: its name, its path, and its least and greatest value.
HEADER = (
    ("hops", [3], 1, 255), ("name", [4], 0, 65535), ("service", [5], 0, 255), ("whole", [6], 0, 1),
)
UDP = (("from", [7, 1], 1, 65535), ("to", [7, 2], 1, 65535), ("summed", [7, 3], 0, 1), ("data", [7, 4, 1], 0, 255))
TCP = (
    ("from", [7, 1], 1, 65535), ("to", [7, 2], 1, 65535), ("seq", [7, 3], 0, MOST - 1), ("ack", [7, 4], 0, MOST - 1),
    ("flags", [7, 5], 0, 255), ("window", [7, 6], 0, 65535), ("urgent", [7, 7], 0, 65535),
    ("options", [7, 8, 3], 0, 255), ("data", [7, 9, 0], 0, 255),
)
ECHO = (("ident", [7, 2], 1, 65535), ("number", [7, 3], 0, 65535), ("data", [7, 4, 1], 0, 255))
FIELDS = (
    (packet(udp()), HEADER + UDP),
    (packet(tcp(options=(1, 1, 1, 0), data=(4, 5))), HEADER + TCP),
    (packet(echo()), HEADER + ECHO),
    (packet(echo("answer")), HEADER + ECHO),
    (packet(failure("unreachable", 4, 9)), HEADER + (("room", [7, 3], 0, 65535),)),
    (packet(failure("unreachable", 3, 0)), HEADER + (("room", [7, 3], 0, 0),)),
    (packet(failure("unreachable", 5, 0)), HEADER + (("room", [7, 3], 0, 0), ("code", [7, 2], 0, 15))),
    (packet(failure("exceeded", 0)), HEADER + (("code", [7, 2], 0, 1), ("room", [7, 3], 0, 0))),
    (packet(failure("exceeded", 1)), HEADER + (("code", [7, 2], 0, 1), ("room", [7, 3], 0, 0))),
)
PLAIN = (0x01000000, 0x7EFFFFFF, 0x80000000, 0xDFFFFFFF)
NOT_PLAIN = (0, 0x00FFFFFF, 0x7F000000, 0x7FFFFFFF, 0xE0000000, MOST - 1, MOST, MOST + 0x0A000001, -1, 0x0A000001 - MOST)


class Faults(unittest.TestCase):
    def check(self, value, due):
        self.assertEqual(calm(self, fault, value), due)
        if due is None:
            self.assertEqual(len(calm(self, write_packet, value)), size_of(value))
            return
        with self.assertRaises(Beyond) as caught:
            write_packet(value)
        self.assertEqual(caught.exception.field, due)

    def test_no_fault(self):
        for value in PACKETS:
            with self.subTest(value):
                self.check(value, None)

    def test_each_field_at_its_bounds_and_beyond(self):
        for value, fields in FIELDS:
            for name, path, least, greatest in fields:
                for number in (least, greatest):
                    with self.subTest((value[7][0], name, number)):
                        self.check(put(value, path, number), None)
                for number in (least - 1, greatest + 1, least - MOST, greatest + MOST):
                    with self.subTest((value[7][0], name, number)):
                        self.check(put(value, path, number), name)

    def test_addresses(self):
        for path, name in (([1], "source"), ([2], "target")):
            for address in PLAIN:
                self.check(put(packet(udp()), path, address), None)
            for address in NOT_PLAIN:
                with self.subTest((name, address)):
                    self.check(put(packet(udp()), path, address), name)

    def test_codes_and_rooms(self):
        for kind in ("unreachable", "exceeded"):
            for code in range(-1, 18):
                for room in (-1, 0, 1, 1400, 65535, 65536):
                    codes = range(16) if kind == "unreachable" else range(2)
                    rooms = range(65536) if kind == "unreachable" and code == 4 else [0]
                    due = "code" if code not in codes else None if room in rooms else "room"
                    with self.subTest((kind, code, room)):
                        self.check(packet(("failure", kind, code, room, udp_stub())), due)

    def test_options_of_each_length(self):
        for length in range(50):
            due = None if length in range(0, 41, 4) else "options"
            with self.subTest(length):
                self.check(packet(tcp(options=[1] * length)), due)

    def test_every_octet_of_options_and_data_is_asked(self):
        for at in range(8):
            for bad in (-1, 256):
                row = [1] * at + [bad] + [1] * (7 - at)
                self.check(packet(tcp(options=row)), "options")
                self.check(packet(tcp(data=row)), "data")
                self.check(packet(udp(data=row)), "data")
                self.check(packet(echo(data=row)), "data")

    def test_stubs(self):
        for kind in ("unreachable", "exceeded"):
            self.check(packet(failure(kind, 1, 0, udp_stub(hops=256))), "stub")
            self.check(packet(failure(kind, 1, 0, tcp_stub(size=39))), "stub")
            self.check(packet(failure(kind, 1, 0, tcp_stub(size=40))), None)

    def test_sizes(self):
        for body, length in ((udp, 1472), (tcp, 1460), (echo, 1472)):
            self.assertEqual(size_of(packet(body(data=()))), 1500 - length)
            self.check(packet(body(data=[7] * length)), None)
            self.assertEqual(calm(self, size_of, packet(body(data=[7] * length))), 1500)
            self.check(packet(body(data=[7] * (length + 1))), "size")
            self.check(packet(body(data=[7] * 70000)), "size")
            self.check(packet(body(data=[7] * length + [256])), "data")
        self.check(packet(tcp(options=[1] * 40, data=[7] * 1420)), None)
        self.check(packet(tcp(options=[1] * 40, data=[7] * 1421)), "size")
        self.check(packet(tcp(options=[1] * 4, data=[7] * 1457)), "size")
        self.assertEqual(size_of(packet(tcp(options=[1] * 8, data=[7] * 3))), 51)
        self.assertEqual(size_of(packet(failure())), 56)

    def test_the_first_field_is_told(self):
        # All fields are wrong; made right one by one, each next one is told.
        rows = (
            (packet(udp(data=[0] * 1500)), ("source", "target", "hops", "name", "service", "whole"),
             ("from", "to", "summed", "data")),
            (packet(tcp(options=[1] * 4, data=[0] * 1500)), ("source", "target", "hops", "name", "service", "whole"),
             ("from", "to", "seq", "ack", "flags", "window", "urgent", "options", "data")),
        )
        for right, header, body in rows:
            value = right
            for at in range(len(header)):
                value = put(value, [at + 1], -1)
            for at, name in enumerate(body):
                part = right[7][at + 1]
                value = put(value, [7, at + 1], (-1,) * len(part) if isinstance(part, tuple) else -1)
            for at, name in enumerate(header):
                self.check(value, name)
                value = put(value, [at + 1], right[at + 1])
            for at, name in enumerate(body):
                self.check(value, name)
                value = put(value, [7, at + 1], right[7][at + 1])
            self.check(value, "size")

    def test_the_first_field_of_echoes_and_failures(self):
        self.check(packet(("echo", "ask", 0, -1, (256,) * 2000)), "ident")
        self.check(packet(("echo", "ask", 1, -1, (256,) * 2000)), "number")
        self.check(packet(("echo", "ask", 1, 1, (256,) * 2000)), "data")
        self.check(packet(("echo", "ask", 1, 1, (0,) * 2000)), "size")
        self.check(packet(failure("exceeded", 2, 1, udp_stub(hops=-1))), "code")
        self.check(packet(failure("exceeded", 1, 1, udp_stub(hops=-1))), "room")
        self.check(packet(failure("exceeded", 1, 0, udp_stub(hops=-1))), "stub")
        self.check(packet(failure("exceeded", 2, 1, udp_stub(hops=-1)), hops=0), "hops")


if __name__ == "__main__":
    unittest.main()
