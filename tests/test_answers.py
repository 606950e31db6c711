"""Points 180 and 181: the own address, and the edge's own answers."""

import unittest

from flow_samples import OWNS, ground
from onepolicy.answers import expired, own_for, refusing, reset
from onepolicy.packet_reading import read_packet
from onepolicy.packet_writing import stub_of, write_packet
from samples import MOST, OWN, PACKETS, PC, SERVER, calm, echo, failure, packet, tcp, udp


def head(source, target):
    return ("packet", source, target, 64, 0, 0, 0)


class OwnAddress(unittest.TestCase):
    def test_the_target_or_the_least_one(self):
        for target in OWNS:
            self.assertEqual(calm(self, own_for, ground(), packet(udp(), target=target)), target)
        for target in (SERVER, PC, OWN - 1, OWN + 3):
            self.assertEqual(calm(self, own_for, ground(), packet(udp(), target=target)), OWN)
        # The source does not matter.
        self.assertEqual(own_for(ground(own=(5 << 24, OWN)), packet(udp(), OWN, SERVER)), 5 << 24)


class Failing(unittest.TestCase):
    def check(self, function, due, given):
        found = calm(self, function, ground(), given)
        self.assertEqual(found, due, given)
        if found is not None:
            self.assertEqual(read_packet(write_packet(found)), found)

    def test_expired(self):
        for target, own in ((SERVER, OWN), (OWN + 1, OWN + 1), (PC, OWN)):
            for body in (udp(), udp(summed=0), tcp(2), tcp(16), tcp(0), echo(), tcp(251), tcp(17, data=(1, 2))):
                given = packet(body, PC, target, 1, 77, 3, 0)
                failing = ("failure", "exceeded", 0, 0, stub_of(given))
                self.check(expired, head(own, PC) + (failing,), given)

    def test_refusing(self):
        for target, own in ((SERVER, OWN), (OWN + 1, OWN + 1), (PC, OWN)):
            for body in (udp(), udp(summed=0, data=()), echo(), echo(data=())):
                given = packet(body, PC, target, 9, 77, 3, 1)
                failing = ("failure", "unreachable", 13, 0, stub_of(given))
                self.check(refusing, head(own, PC) + (failing,), given)
            for body in (tcp(2), tcp(16), tcp(18), tcp(0)):
                given = packet(body, PC, target)
                self.check(refusing, reset(given), given)

    def test_none_at_all(self):
        bodies = [failure(), failure("exceeded", 1), echo("answer"), echo("answer", data=())]
        bodies += [tcp(flags) for flags in (4, 20, 6, 7, 255, 4 + 128, 5, 22)]
        for body in bodies:
            for target in (SERVER, OWN):
                self.check(expired, None, packet(body, PC, target))
                self.check(refusing, None, packet(body, PC, target))

    def test_all_kinds(self):
        for given in PACKETS:
            body = given[7]
            silent = body[0] == "failure" or body[:2] == ("echo", "answer") or body[0] == "tcp" and body[5] & 4
            for function in (expired, refusing):
                self.assertEqual(calm(self, function, ground(), given) is None, bool(silent))


class Resets(unittest.TestCase):
    def check(self, flags, seq, ack, data, due):
        for options in ((), (3, 3, 7, 0)):
            body = tcp(flags, seq, ack, 500, 9, options, data)
            given = packet(body, PC, SERVER, 7, 88, 4, 1)
            found = calm(self, reset, given)
            self.assertEqual(found, head(SERVER, PC) + (("tcp", 80, 40000) + due + (0, 0, (), ()),))
            self.assertEqual(read_packet(write_packet(found)), found)

    def test_of_what_has_ack(self):
        for flags in (16, 17, 18, 19, 24, 16 + 4, 255):
            for ack in (0, 1, 2000, MOST - 1):
                self.check(flags, 1000, ack, (1, 2), (ack, 0, 4))

    def test_of_what_has_none(self):
        for flags, many in ((0, 0), (2, 1), (1, 1), (3, 2), (4, 0), (8 + 32 + 64 + 128, 0), (6, 1)):
            for seq in (0, 1000, MOST - 1, MOST - 3):
                for data in ((), (1,), (1, 2, 3)):
                    self.check(flags, seq, 2000, data, (0, (seq + many + len(data)) % MOST, 20))


if __name__ == "__main__":
    unittest.main()
