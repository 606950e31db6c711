"""Points 160 to 163: pools, and the ends that they give."""

import copy
import random
import unittest

from onepolicy.bindings import end_for, fault_pool, free_ports, give_back, take_end
from samples import OWN, PC, SERVER, calm

OWNS = tuple(OWN + number for number in range(70))


def ground(workers=2, own=OWNS):
    return ("ground", ((0x0A000000, 8),), own, workers)


def pool(addresses=(OWN,), low=40000, high=40009):
    return ("pool", tuple(addresses), low, high)


def book(part=0, workers=2, bindings=None, resting=None, quiet=0):
    return {
        "ground": ground(workers), "part": part, "quiet": quiet, "next": part + workers, "flows": {}, "ways": {},
        "bindings": bindings or {}, "resting": resting or {},
    }


class Faults(unittest.TestCase):
    def check(self, value, due, own=OWNS[:64]):
        self.assertEqual(calm(self, fault_pool, ground(own=own), value), due, value)

    def test_right_ones(self):
        for value in (
            pool(), pool(OWNS[:64]), pool(low=32768, high=65535), pool(low=32768, high=32768),
            pool(low=65535, high=65535), pool((OWN + 3, OWN + 7)),
        ):
            self.check(value, None)

    def test_addresses(self):
        for addresses in (
            (), (OWN, OWN), (OWN + 1, OWN), (OWN - 1,), (OWN, OWN + 64), (PC,), (SERVER,), (OWN, OWN + 2, OWN + 1),
        ):
            self.check(pool(addresses), "addresses")
        self.check(pool(OWNS[:65]), "addresses", OWNS)
        self.check(pool(OWNS[:64]), None, OWNS)

    def test_ports(self):
        for low, high in (
            (32767, 40000), (40000, 39999), (40000, 65536), (0, 65535), (65536, 65536), (32767, 32767), (-1, -1),
            (65535, 32768), (1, 1024),
        ):
            self.check(pool(low=low, high=high), "ports")

    def test_any_values(self):
        for other in (None, "", "x", 5, OWN, True, [OWN], {OWN: 1}, (None,), ("x",), (True,), (OWN, "x"), ("x", OWN),
                      (OWN, None), ((OWN,),), ([],), ({},), (OWN, True), (OWN + 0.0,), b"", (OWN, (OWN,))):
            self.check(("pool", other, 40000, 40009), "addresses")
            self.check(("pool", other, None, None), "addresses")
        for other in (None, "", "40000", 40000.0, True, False, [], (), {}, (40000,), b"x"):
            self.check(("pool", (OWN,), other, 65535), "ports")
            self.check(("pool", (OWN,), 32768, other), "ports")
            self.check(("pool", (OWN,), other, other), "ports")

    def test_truths_are_no_addresses(self):
        self.check(("pool", (True,), 40000, 40009), "addresses", (1, OWN))

    def test_the_first_fault_is_told(self):
        self.check(pool((), 5, 4), "addresses")
        self.check(pool((OWN,), 5, 4), "ports")


def given_back(value, moment, key):
    """Return the book in which the binding with a key was given back."""
    value = copy.deepcopy(value)
    give_back(value, moment, key)
    return value


class FreePorts(unittest.TestCase):
    def ask(self, value, moment=0, of=None, kind="udp", address=OWN):
        return calm(self, free_ports, value, moment, of or pool(), kind, address)

    def test_the_part_of_the_book(self):
        for workers in range(1, 5):
            for part in range(workers):
                due = [port for port in range(40000, 40010) if port % workers == part]
                self.assertEqual(self.ask(book(part, workers)), due)

    def test_every_low_and_high(self):
        for workers in range(1, 5):
            for part in range(workers):
                for low in range(32768, 32774):
                    for high in range(low, 32776):
                        due = [port for port in range(low, high + 1) if port % workers == part]
                        self.assertEqual(self.ask(book(part, workers), of=pool(low=low, high=high)), due)

    def test_all_ports_and_one_port(self):
        found = self.ask(book(0, 1), of=pool(low=32768, high=65535))
        self.assertEqual(found, list(range(32768, 65536)))
        found = self.ask(book(3, 4), of=pool(low=32768, high=65535))
        self.assertEqual(found, list(range(32771, 65536, 4)))
        self.assertEqual(self.ask(book(1, 2), of=pool(low=65535, high=65535)), [65535])
        self.assertEqual(self.ask(book(0, 2), of=pool(low=65535, high=65535)), [])

    def test_bindings_of_the_kind_and_the_address(self):
        others = pool((OWN, OWN + 1), 40000, 50000)
        bindings = {
            (pool(), "udp", PC, 1): (OWN, 40002, 1), (others, "udp", PC, 1): (OWN, 40004, 2),
            (pool(), "tcp", PC, 1): (OWN, 40000, 1), (others, "udp", PC + 1, 1): (OWN + 1, 40006, 1),
        }
        value = book(0, 2, bindings)
        self.assertEqual(self.ask(value), [40000, 40006, 40008])
        self.assertEqual(self.ask(value, kind="tcp"), [40002, 40004, 40006, 40008])
        self.assertEqual(self.ask(value, kind="echo"), [40000, 40002, 40004, 40006, 40008])
        self.assertEqual(self.ask(value, address=OWN + 1), [40000, 40002, 40004, 40008])

    def test_what_rests(self):
        value = book(0, 2, None, {("udp", OWN, 40000): 61, ("tcp", OWN, 40002): 61, ("udp", OWN + 1, 40004): 61})
        self.assertEqual(self.ask(value, 60), [40002, 40004, 40006, 40008])
        self.assertEqual(self.ask(value, 60, kind="tcp"), [40000, 40004, 40006, 40008])
        self.assertEqual(self.ask(value, 60, address=OWN + 1), [40000, 40002, 40006, 40008])

    def test_quiet(self):
        value = book(0, 2, quiet=100)
        self.assertEqual(self.ask(value, 0), [])
        self.assertEqual(self.ask(value, 99), [])
        self.assertEqual(self.ask(value, 100), [40000, 40002, 40004, 40006, 40008])
        self.assertEqual(self.ask(value, 101), [40000, 40002, 40004, 40006, 40008])

    def test_nothing_is_shared(self):
        value = book()
        self.ask(value).clear()
        self.assertEqual(len(self.ask(value)), 5)


class Ends(unittest.TestCase):
    def ask(self, value, of, kind="udp", address=PC, port=1, moment=0):
        return calm(self, end_for, value, moment, of, kind, address, port)

    def test_the_first_one(self):
        for workers in range(1, 5):
            for part in range(workers):
                of = pool((OWN + 1, OWN + 2), 32769, 32790)
                least = min(port for port in range(32769, 32790) if port % workers == part)
                self.assertEqual(self.ask(book(part, workers), of), (OWN + 1, least))

    def test_a_binding_keeps_its_end(self):
        of = pool((OWN, OWN + 1))
        bindings = {(of, "udp", PC, 1): (OWN + 1, 40006, 3)}
        self.assertEqual(self.ask(book(0, 2, bindings), of), (OWN + 1, 40006))
        # Also if nothing is free.
        self.assertEqual(self.ask(book(0, 2, bindings, quiet=50), of), (OWN + 1, 40006))
        self.assertEqual(type(self.ask(book(0, 2, bindings), of)), tuple)

    def test_other_keys_are_no_binding(self):
        of = pool()
        for key in ((of, "tcp", PC, 1), (of, "udp", PC, 2), (of, "udp", PC + 1, 1), (pool(high=40010), "udp", PC, 1)):
            bindings = {key: (OWN, 40006, 1)}
            self.assertEqual(self.ask(book(0, 2, bindings), of), (OWN, 40000))

    def test_an_inside_address_keeps_its_outside_address(self):
        of = pool((OWN, OWN + 1))
        for kind, port in (("tcp", 1), ("udp", 2), ("echo", 77)):
            bindings = {(of, kind, PC, port): (OWN + 1, 40000, 1)}
            due = 40000 if kind != "udp" else 40002
            self.assertEqual(self.ask(book(0, 2, bindings), of), (OWN + 1, due))
            # Only bindings of this pool count.
            other = pool((OWN, OWN + 1), 40000, 40010)
            self.assertEqual(self.ask(book(0, 2, bindings), other), (OWN, 40000))

    def test_no_end_though_another_address_has_ports(self):
        of = pool((OWN, OWN + 1), 40000, 40001)
        bindings = {(of, "udp", PC, 2): (OWN, 40000, 1)}
        self.assertIsNone(self.ask(book(0, 2, bindings), of))
        self.assertEqual(self.ask(book(0, 2, bindings), of, address=PC + 1), (OWN + 1, 40000))
        self.assertEqual(self.ask(book(0, 2, bindings), of, "tcp"), (OWN, 40000))

    def test_the_address_with_the_fewest_inside_addresses(self):
        of = pool((OWN, OWN + 1, OWN + 2, OWN + 3))
        bindings = {
            (of, "udp", PC, 1): (OWN, 40000, 1), (of, "udp", PC + 1, 1): (OWN, 40002, 1),
            (of, "udp", PC + 2, 1): (OWN + 1, 40000, 1), (of, "udp", PC + 2, 2): (OWN + 1, 40002, 1),
            (of, "tcp", PC + 2, 2): (OWN + 1, 40002, 1), (of, "tcp", PC + 3, 1): (OWN + 2, 40000, 1),
            (of, "echo", PC + 4, 1): (OWN + 2, 40000, 1), (of, "echo", PC + 5, 1): (OWN + 3, 40000, 1),
        }
        value = book(0, 2, bindings)
        self.assertEqual(self.ask(value, of, address=PC + 9), (OWN + 1, 40004))
        self.assertEqual(self.ask(value, of, "tcp", PC + 9), (OWN + 1, 40000))
        del bindings[of, "echo", PC + 5, 1]
        self.assertEqual(self.ask(book(0, 2, bindings), of, address=PC + 9), (OWN + 3, 40000))

    def test_bindings_of_other_pools_are_not_counted(self):
        of, other = pool((OWN, OWN + 1)), pool((OWN,), 40000, 50000)
        bindings = {(other, "udp", PC, 1): (OWN, 40000, 1), (of, "tcp", PC + 1, 1): (OWN + 1, 40000, 1)}
        self.assertEqual(self.ask(book(0, 2, bindings), of, address=PC + 9), (OWN, 40002))

    def test_only_addresses_with_free_ports_count(self):
        of = pool((OWN, OWN + 1), 40000, 40001)
        resting = {("udp", OWN, 40000): 50}
        self.assertEqual(self.ask(book(0, 2, None, resting), of), (OWN + 1, 40000))
        self.assertEqual(self.ask(book(0, 2, None, resting), of, "tcp"), (OWN, 40000))
        resting["udp", OWN + 1, 40000] = 50
        self.assertIsNone(self.ask(book(0, 2, None, resting), of))

    def test_one_port(self):
        of = pool((OWN,), 65535, 65535)
        self.assertEqual(self.ask(book(1, 2), of), (OWN, 65535))
        self.assertIsNone(self.ask(book(0, 2), of))
        bindings = {(of, "udp", PC + 1, 1): (OWN, 65535, 1)}
        self.assertIsNone(self.ask(book(1, 2, bindings), of))
        self.assertEqual(self.ask(book(1, 2, bindings), of, "echo"), (OWN, 65535))

    def test_all_ports(self):
        of = pool((OWN, OWN + 1, OWN + 2, OWN + 3), 32768, 65535)
        bindings = {(of, "udp", PC, port): (OWN, port, 1) for port in range(32768, 65535)}
        self.assertEqual(self.ask(book(0, 1, bindings), of), (OWN, 65535))
        self.assertEqual(self.ask(book(0, 1, bindings), of, address=PC + 1), (OWN + 1, 32768))
        bindings[of, "udp", PC, 65535] = (OWN, 65535, 1)
        self.assertIsNone(self.ask(book(0, 1, bindings), of))

    def test_quiet(self):
        self.assertIsNone(self.ask(book(quiet=60), pool(), moment=59))
        self.assertEqual(self.ask(book(quiet=60), pool(), moment=60), (OWN, 40000))


def naive_end(value, moment, of, kind, address, port):
    """Return the end for a source by the words of point 162, one by one."""
    bindings = value["bindings"]
    if (of, kind, address, port) in bindings:
        return bindings[of, kind, address, port][:2]
    free = {}
    for outside in of[1]:
        for number in range(of[2], of[3] + 1):
            taken = any(key[1] == kind and end[:2] == (outside, number) for key, end in bindings.items())
            rests = (kind, outside, number) in value["resting"]
            if number % value["ground"][3] == value["part"] and not taken and not rests and moment >= value["quiet"]:
                free.setdefault(outside, []).append(number)
    same = [end[0] for key, end in bindings.items() if key[0] == of and key[2] == address]
    if same:
        return (same[0], free[same[0]][0]) if same[0] in free else None
    if not free:
        return None
    many = {out: len({key[2] for key, end in bindings.items() if key[0] == of and end[0] == out}) for out in free}
    outside = min(free, key=lambda out: (many[out], out))
    return (outside, free[outside][0])


class Rows(unittest.TestCase):
    """Points 161 to 163 in rows of deeds: ends are given, kept and given back."""

    def test_rows_of_deeds(self):
        draw = random.Random(162)
        for _ in range(40):
            pools = [pool((OWN, OWN + 1)[:draw.randint(1, 2)], 40000, 40000 + draw.randrange(8)),
                     pool((OWN, OWN + 2, OWN + 3), 40002, 40005)]
            workers = draw.randint(1, 3)
            value = book(draw.randrange(workers), workers, quiet=draw.choice([0, 5]))
            moment, given = 0, {}
            for _ in range(60):
                moment += draw.choice([0, 0, 1, 7, 30])
                value["resting"] = {end: until for end, until in value["resting"].items() if until > moment}
                bindings = value["bindings"]
                if bindings and draw.randrange(3) == 0:
                    key = draw.choice(list(bindings))
                    address, port, holders = bindings[key]
                    value = calm(self, given_back, value, moment, key)
                    if holders == 1:
                        given[key[1], address, port] = moment
                    continue
                of, kind = draw.choice(pools), draw.choice(["udp", "tcp"])
                address, port = PC + draw.randrange(4), draw.randint(1, 2)
                end = calm(self, end_for, value, moment, of, kind, address, port)
                self.assertEqual(end, naive_end(value, moment, of, kind, address, port))
                for outside in of[1]:
                    ports = calm(self, free_ports, value, moment, of, kind, outside)
                    self.assertEqual(ports, sorted(set(ports)))
                if end is None:
                    continue
                key = (of, kind, address, port)
                if key not in bindings:
                    self.assertIn(end[1], free_ports(value, moment, of, kind, end[0]))
                    self.assertEqual(end[1] % workers, value["part"])
                    self.assertGreaterEqual(moment - given.get((kind,) + end, -60), 60)
                holders = bindings[key][2] if key in bindings else 0
                due = {**bindings, key: end + (holders + 1,)}
                take_end(value, key, end)
                self.assertEqual(value["bindings"], due)
                ends = [(key[1],) + end[:2] for key, end in value["bindings"].items()]
                self.assertEqual(len(ends), len(set(ends)))


class GivingBack(unittest.TestCase):
    def test_one_holder_less(self):
        key = (pool(), "udp", PC, 1)
        value = book(0, 2, {key: (OWN, 40000, 3)}, {("udp", OWN, 40002): 9})
        value["flows"], value["ways"] = {2: (2, "first", "back")}, {"first": (2, 0), "back": (2, 1)}
        found = calm(self, given_back, value, 100, key)
        self.assertEqual(found, {**value, "bindings": {key: (OWN, 40000, 2)}})
        found = calm(self, given_back, found, 100, key)
        self.assertEqual(found, {**value, "bindings": {key: (OWN, 40000, 1)}})

    def test_the_last_holder(self):
        key, other = (pool(), "tcp", PC, 1), (pool(), "udp", PC, 1)
        value = book(0, 2, {key: (OWN, 40000, 1), other: (OWN, 40000, 1)}, {("udp", OWN, 40002): 9})
        found = calm(self, given_back, value, 100, key)
        resting = {("udp", OWN, 40002): 9, ("tcp", OWN, 40000): 160}
        self.assertEqual(found, {**value, "bindings": {other: (OWN, 40000, 1)}, "resting": resting})
        for moment, due in ((100, [40002, 40004]), (159, [40002, 40004]), (160, [40000, 40002, 40004])):
            self.assertEqual(free_ports(found, moment, pool(high=40004), "tcp", OWN), due)

    def test_nothing_but_the_book_changes(self):
        key = (pool(), "udp", PC, 1)
        value = book(0, 2, {key: (OWN, 40000, 1)})
        self.assertIsNone(give_back(value, 100, key))
        self.assertEqual(value, book(0, 2, {}, {("udp", OWN, 40000): 160}))
        self.assertIsNone(take_end(value, key, (OWN, 40002)))
        self.assertEqual(value, book(0, 2, {key: (OWN, 40002, 1)}, {("udp", OWN, 40000): 160}))


if __name__ == "__main__":
    unittest.main()
