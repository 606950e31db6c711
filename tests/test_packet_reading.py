"""Points 109 and 110: reading packets."""

import random
import unittest

from onepolicy.errors import Unread
from onepolicy.packet_reading import read_packet
from onepolicy.packet_writing import write_packet
from onepolicy.stubs import write_stub
from samples import (PACKETS, calm, echo, echo_stub, failure, folded_by_carries, packet, put, tcp, tcp_stub, udp,
                     udp_stub)

PLACES = {17: 6, 6: 16, 1: 2}


def two(number):
    return [number // 256 % 256, number % 256]


def four(number):
    return two(number // 65536) + two(number)


class Raw:
    """A packet as it is sent, made of parts that can be wrong one by one."""

    def __init__(self, protocol, body):
        self.start = [69, 0]
        self.odd_size = 0
        self.bits = [64, 0]
        self.hops = 64
        self.protocol = protocol
        self.told_protocol = protocol
        self.odd_sum = 0
        self.source = 0x0A000005
        self.target = 0x08080808
        self.body = list(body)
        self.many = None
        self.odd_body_sum = 0

    def octets(self):
        body = self.body if self.many is None else (self.body + [0] * 2000)[:self.many]
        ends = four(self.source) + four(self.target)
        place = PLACES[self.protocol]
        if len(body) >= place + 2 and self.odd_body_sum is not None:
            start = [] if self.protocol == 1 else ends + [0, self.protocol] + two(len(body))
            blank = body[:place] + [0, 0] + body[place + 2:]
            due = 65535 - folded_by_carries(start + blank)
            due = 65535 if due == 0 and self.protocol == 17 else due
            body = body[:place] + two(due + self.odd_body_sum) + body[place + 2:]
        header = self.start + two(20 + len(body) + self.odd_size) + [1, 2] + self.bits + [self.hops, self.told_protocol]
        total = 65535 - folded_by_carries(header + ends)
        return header + two(total + self.odd_sum) + ends + body


def raw_udp(data=(1, 2, 3)):
    return Raw(17, two(40000) + two(53) + two(8 + len(data)) + [0, 0] + list(data))


def raw_tcp(options=(), data=(1, 2, 3)):
    start = two(40000) + two(80) + four(1000) + four(2000) + [80 + 4 * len(options), 16]
    return Raw(6, start + two(500) + [0, 0, 0, 0] + list(options) + list(data))


def raw_echo(kind=8):
    return Raw(1, [kind, 0, 0, 0] + two(77) + two(1) + [9, 8, 7])


def raw_failure(kind=3, code=1, stub=None):
    return Raw(1, [kind, code] + [0] * 6 + write_stub(stub or udp_stub()))


def set_at(name, value):
    return lambda raw: setattr(raw, name, value)


def set_octet(at, octet):
    def change(raw):
        raw.body[at] = octet
    return change


def set_start(version, length):
    def change(raw):
        high, low = raw.start[0] // 16, raw.start[0] % 16
        raw.start[0] = 16 * (version or high) + (low if length is None else length)
    return change


def grow(raw):
    raw.many = 1481


def cut_short(raw):
    raw.many = 19 if raw.protocol == 6 else 7


def flag(raw):
    raw.bits[0] |= 128


def fragment(raw):
    raw.bits[0] |= 1


def fragment_behind(raw):
    raw.bits[1] = 1


HEADER = [
    ("large", grow), ("version", set_start(5, None)), ("version", set_start(15, None)), ("header", set_start(None, 4)),
    ("header", set_start(None, 0)), ("options", set_start(None, 6)), ("options", set_start(None, 15)),
    ("sum", set_at("odd_sum", 1)), ("sum", set_at("odd_sum", 256)),
    ("cut", set_at("odd_size", 1)), ("cut", set_at("odd_size", 256)), ("long", set_at("odd_size", -1)), ("flag", flag),
    ("fragment", fragment), ("fragment", fragment_behind), ("hops", set_at("hops", 0)),
    ("source", set_at("source", 0x7F000001)), ("target", set_at("target", 0xE0000000)),
    ("protocol", set_at("told_protocol", 2)), ("body short", cut_short),
]
BODY_SUM = [("body sum", set_at("odd_body_sum", 1)), ("body sum", set_at("odd_body_sum", 256))]


def zero(*places):
    def change(raw):
        for at in places:
            raw.body[at] = 0
    return change


UDP = HEADER + [("body header", set_octet(5, 12)), ("body header", set_octet(4, 1))] + BODY_SUM + [
    ("port", zero(0, 1)), ("port", zero(2, 3)),
]
TCP = HEADER + [
    ("body header", set_octet(12, 81)), ("body header", set_octet(12, 64)), ("body header", set_octet(12, 96)),
] + BODY_SUM + [("port", zero(0, 1)), ("port", zero(2, 3))]
ECHO = HEADER + BODY_SUM + [("kind", set_octet(1, 1)), ("kind", set_octet(0, 13)), ("port", zero(4, 5))]
FAILURE = HEADER + BODY_SUM + [
    ("kind", set_octet(1, 16)), ("kind", set_octet(0, 12)), ("rest", set_octet(4, 1)), ("rest", set_octet(5, 1)),
    ("rest", set_octet(6, 1)), ("rest", set_octet(7, 1)), ("quoted", set_octet(8, 70)), ("quoted", set_octet(20, 0)),
]
ORDER = (
    "short", "large", "version", "header", "options", "sum", "cut", "long", "flag", "fragment", "hops", "source",
    "target", "protocol", "body short", "body header", "body sum", "kind", "rest", "quoted", "port",
)
KINDS = ((raw_udp, UDP), (raw_tcp, TCP), (raw_echo, ECHO), (raw_failure, FAILURE))


class Words(unittest.TestCase):
    def check(self, octets, word):
        if word is None:
            self.assertEqual(write_packet(calm(self, read_packet, octets)), octets)
            return
        with self.assertRaises(Unread) as caught:
            calm(self, read_packet, octets)
        self.assertEqual(caught.exception.word, word)

    def test_without_faults(self):
        for make, _ in KINDS:
            self.check(make().octets(), None)

    def test_each_word(self):
        for make, faults in KINDS:
            for number, (word, change) in enumerate(faults):
                raw = make()
                change(raw)
                with self.subTest((make.__name__, number, word)):
                    self.check(raw.octets(), word)

    def test_each_word_with_another_behind_it(self):
        for make, faults in KINDS:
            for number, (word, change) in enumerate(faults):
                for other_number, (other_word, other_change) in enumerate(faults[number + 1:], number + 1):
                    if word == other_word or {word, other_word} in ({"header", "options"}, {"cut", "long"}):
                        continue
                    if {word, other_word} == {"large", "body short"}:
                        continue
                    raw = make()
                    other_change(raw)
                    change(raw)
                    with self.subTest((make.__name__, number, word, other_number, other_word)):
                        self.check(raw.octets(), word)

    def test_all_that_is_behind_a_word(self):
        for make, faults in KINDS:
            words = []
            for word, change in faults:
                raw = make()
                told = [word]
                for other_word, other_change in faults[::-1]:
                    if ORDER.index(other_word) > ORDER.index(word) and other_word not in ("long", "options"):
                        other_change(raw)
                        told.append(other_word)
                change(raw)
                words.append(word)
                with self.subTest((make.__name__, told)):
                    self.check(raw.octets(), word)
            self.assertEqual(words, sorted(words, key=ORDER.index))

    def test_short(self):
        for make, _ in KINDS:
            octets = make().octets()
            for length in (0, 1, 10, 19):
                self.check(octets[:length], "short")
            self.check(octets[:20], "cut")
        for length in range(20):
            self.check([255] * length, "short")
        self.check([], "short")

    def test_large(self):
        right = write_packet(packet(udp(data=[0] * 1472)))
        self.check(right, None)
        self.check(right + [0], "large")
        self.check([0] * 1501, "large")
        self.check([0] * 1500, "version")
        self.check([255] * 70000, "large")

    def test_every_first_octet(self):
        for first in range(256):
            raw = raw_udp()
            raw.start[0] = first
            words = ["version"] if first // 16 != 4 else ["header"] if first % 16 < 5 else ["options"]
            self.check(raw.octets(), None if first == 69 else words[0])

    def test_sums_of_headers(self):
        octets = raw_udp().octets()
        for at in (10, 11):
            for bit in range(8):
                self.check(octets[:at] + [octets[at] ^ 1 << bit] + octets[at + 1:], "sum")

    def test_a_header_sum_of_0(self):
        for name in range(65536):
            octets = write_packet(packet(udp(), name=name))
            if octets[10:12] == [0, 0]:
                self.check(octets, None)
                self.check(octets[:10] + [255, 255] + octets[12:], "sum")
                return
        self.fail("no such name")

    def test_bits(self):
        for bits in range(256):
            for low in (0, 1, 128, 255):
                raw = raw_udp()
                raw.bits = [bits, low]
                word = "flag" if bits >= 128 else "fragment" if low or bits not in (0, 64) else None
                self.check(raw.octets(), word)

    def test_protocols_and_addresses(self):
        for protocol in range(256):
            raw = raw_udp()
            raw.told_protocol = protocol
            if protocol not in (1, 6, 17):
                self.check(raw.octets(), "protocol")
        for first in range(256):
            plain = first in range(1, 224) and first != 127
            for name in ("source", "target"):
                raw = raw_udp()
                setattr(raw, name, first * 2 ** 24 + 5)
                self.check(raw.octets(), None if plain else name)

    def test_short_bodies(self):
        for make, least in ((raw_udp, 8), (raw_tcp, 20), (raw_echo, 8), (raw_failure, 8)):
            for many in range(least):
                raw = make()
                raw.many = many
                self.check(raw.octets(), "body short")
        raw = raw_udp(())
        self.check(raw.octets(), None)
        self.check(raw_tcp((), ()).octets(), None)
        raw = raw_echo()
        raw.many = 8
        self.check(raw.octets(), None)
        raw = raw_failure()
        raw.many = 8
        self.check(raw.octets(), "quoted")

    def test_body_headers(self):
        for many in range(16):
            for rest in range(16):
                raw = raw_tcp([1] * 8, [2] * 4)
                raw.body[12] = 16 * many + rest
                self.check(raw.octets(), None if rest == 0 and 5 <= many <= 8 else "body header")
        for length in (0, 1, 7, 8, 10, 12, 65535):
            raw = raw_udp()
            raw.body[4:6] = two(length)
            self.check(raw.octets(), "body header")

    def test_sums_of_udp(self):
        octets = raw_udp().octets()
        self.check(octets[:26] + [0, 0] + octets[28:], None)
        found = []
        for low in range(65536):
            raw = raw_udp(two(low))
            if raw.octets()[26:28] == [255, 255]:
                found.append(raw.octets())
        for octets in found:
            self.check(octets, None)
            self.assertEqual(read_packet(octets)[7][3], 1)
            self.assertEqual(read_packet(octets[:26] + [0, 0] + octets[28:])[7][3], 0)
        self.assertTrue(found)

    def test_sums_of_udp_with_an_octet_of_0(self):
        for at in (26, 27):
            for low in range(65536):
                octets = raw_udp(two(low)).octets()
                if octets[at] == 0:
                    self.assertEqual(read_packet(octets)[7][3], 1)
                    break
            else:
                self.fail("no such sum")

    def test_sums_of_0_of_tcp_and_echo(self):
        for make, at in ((lambda low: raw_tcp((), two(low)), 36), (lambda low: raw_echo(), 22)):
            for low in range(65536):
                raw = make(low)
                if at == 22:
                    raw.body[6:8] = two(low)
                octets = raw.octets()
                if octets[at:at + 2] == [0, 0]:
                    self.check(octets, None)
                    self.check(octets[:at] + [255, 255] + octets[at + 2:], "body sum")
                    break
            else:
                self.fail("no such sum")

    def test_an_echo_of_zeros(self):
        raw = Raw(1, [0] * 8)
        self.check(raw.octets(), "port")
        raw.odd_body_sum = None
        self.check(raw.octets(), "body sum")

    def test_kinds(self):
        for kind in range(256):
            for code in (0, 1, 2, 4, 5, 15, 16, 255):
                raw = raw_failure(kind, code)
                right = kind in (0, 8) and code == 0 or kind == 3 and code < 16 or kind == 11 and code < 2
                word = None if right else "kind"
                # The rest of a failure is an echo without an ident.
                self.check(raw.octets(), "port" if right and kind in (0, 8) else word)

    def test_rests(self):
        for kind, code in ((3, 4), (3, 3), (3, 5), (3, 0), (11, 0), (11, 1)):
            for at in (4, 5, 6, 7):
                raw = raw_failure(kind, code)
                raw.body[at] = 9
                self.check(raw.octets(), None if (kind, code) == (3, 4) and at > 5 else "rest")

    def test_quoted(self):
        for stub in (udp_stub(), tcp_stub(), echo_stub(), echo_stub("answer"), udp_stub(hops=0, total=0)):
            self.check(raw_failure(3, 0, stub).octets(), None)
            for many in (35, 37):
                raw = raw_failure(3, 0, stub)
                raw.many = many
                self.check(raw.octets(), "quoted")
        for stub in (udp_stub(size=27), udp_stub(size=1501), tcp_stub(size=39), udp_stub(source_port=0),
                     udp_stub(source=0x7F000001), echo_stub(ident=0)):
            self.check(raw_failure(11, 0, stub).octets(), "quoted")

    def test_ports(self):
        for make, places in ((raw_udp, (0, 2)), (raw_tcp, (0, 2)), (raw_echo, (4,))):
            for at in places:
                for octets, word in (([0, 0], "port"), ([0, 1], None), ([1, 0], None), ([255, 255], None)):
                    raw = make()
                    raw.body[at:at + 2] = octets
                    self.check(raw.octets(), word)

    def test_ports_beside_great_numbers(self):
        raw = raw_udp([0] * 1400)
        raw.body[0:4] = [0, 0, 255, 255]
        self.check(raw.octets(), "port")
        raw.body[0:4] = [255, 255, 0, 0]
        self.check(raw.octets(), "port")
        raw = raw_tcp()
        raw.body[2:8] = [0, 0, 255, 255, 255, 255]
        self.check(raw.octets(), "port")
        raw = raw_echo()
        raw.body[4:8] = [0, 0, 255, 255]
        self.check(raw.octets(), "port")


class Facts(unittest.TestCase):
    def test_told_packets(self):
        raw = raw_tcp((3, 3, 7, 0), (5, 6))
        raw.start[1], raw.hops, raw.bits = 9, 1, [0, 0]
        raw.body[13:16], raw.body[18:20] = [0xC2, 1, 2], [3, 4]
        body = ("tcp", 40000, 80, 1000, 2000, 0xC2, 258, 772, (3, 3, 7, 0), (5, 6))
        self.assertEqual(read_packet(raw.octets()), ("packet", 0x0A000005, 0x08080808, 1, 258, 9, 0, body))
        start = ("packet", 0x0A000005, 0x08080808, 64, 258, 0, 1)
        self.assertEqual(read_packet(raw_udp().octets()), start + (("udp", 40000, 53, 1, (1, 2, 3)),))
        self.assertEqual(read_packet(raw_echo().octets()), start + (("echo", "ask", 77, 1, (9, 8, 7)),))
        self.assertEqual(read_packet(raw_echo(0).octets()), start + (("echo", "answer", 77, 1, (9, 8, 7)),))
        raw = raw_failure(3, 4, tcp_stub())
        raw.body[6:8] = [5, 220]
        self.assertEqual(read_packet(raw.octets()), start + (("failure", "unreachable", 4, 1500, tcp_stub()),))
        found = read_packet(raw_failure(11, 1, echo_stub()).octets())
        self.assertEqual(found, start + (("failure", "exceeded", 1, 0, echo_stub()),))

    def test_reading_what_was_written(self):
        for value in PACKETS:
            with self.subTest(value):
                self.assertEqual(calm(self, read_packet, write_packet(value)), value)

    def test_reading_what_was_written_at_the_bounds(self):
        for value, path, numbers in (
            (packet(udp()), [7, 1], (1, 65535)), (packet(udp()), [7, 2], (1, 65535)), (packet(udp()), [4], (0, 65535)),
            (packet(tcp()), [7, 3], (0, 2 ** 32 - 1)), (packet(tcp()), [7, 4], (0, 2 ** 32 - 1)),
            (packet(tcp()), [7, 5], (0, 255)), (packet(tcp()), [7, 6], (0, 65535)), (packet(tcp()), [7, 7], (0, 65535)),
            (packet(echo()), [7, 2], (1, 65535)), (packet(echo()), [7, 3], (0, 65535)),
            (packet(udp()), [1], (0x01000000, 0xDFFFFFFF)), (packet(udp()), [2], (0x01000000, 0xDFFFFFFF)),
            (packet(udp()), [7, 4], ((), (0,) * 1472, (255,) * 1471)), (packet(udp()), [3], (1, 255)),
            (packet(echo()), [7, 4], ((), (0,) * 1472, (255,) * 1471)), (packet(udp()), [5], (0, 255)),
            (packet(tcp()), [7, 9], ((), (0,) * 1460, (255,) * 1459)), (packet(udp()), [6], (0, 1)),
            (packet(tcp()), [7, 8], tuple((1,) * many for many in range(0, 41, 4))),
            (packet(failure("unreachable", 4)), [7, 3], (0, 65535)),
        ):
            for number in numbers:
                found = put(value, path, number)
                self.assertEqual(read_packet(write_packet(found)), found)

    def test_what_is_read_is_written_as_it_was(self):
        draw = random.Random(110)
        read = 0
        for _ in range(6000):
            raw = draw.choice([raw_udp, raw_tcp, raw_echo, raw_failure])()
            for _ in range(draw.randrange(4)):
                raw.body[draw.randrange(len(raw.body))] = draw.choice([0, 1, 80, 255, draw.randrange(256)])
            raw.start[1], raw.hops = draw.randrange(256), draw.randrange(256)
            raw.bits = draw.choice([[64, 0], [0, 0], [64, 0], [128, 0]])
            raw.odd_body_sum = draw.choice([0, 0, 0, None])
            octets = raw.octets()
            try:
                found = read_packet(octets)
            except Unread:
                continue
            read += 1
            self.assertEqual(write_packet(found), octets)
        self.assertGreater(read, 1000)

    def test_what_is_read_shares_nothing(self):
        octets = write_packet(packet(udp()))
        found = read_packet(octets)
        octets[28] = 200
        self.assertEqual(found, packet(udp()))


if __name__ == "__main__":
    unittest.main()
