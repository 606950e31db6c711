"""Points 450 to 456: services, and who gets which server."""

import copy
import random
import unittest
from fractions import Fraction

from onepolicy.balance import (
    eligible, empty_state, ended, fault_of_services, look, mark, rank, swept_clients, take,
)
from samples import calm
from table_samples import ODD

MARKS = 2305843009213693951


def server(name, weight=1, health="up", address=1, port=80):
    return (name, address, port, weight, health)


def service(servers, choice="turns", hold=None, name="web"):
    return (name, tuple(servers), choice, hold)


A, B, C = server("a", 2), server("b", 1), server("c", 5, "down")


def state_of(**parts):
    return {**empty_state(), **parts}


class Faults(unittest.TestCase):
    def check(self, services, due):
        self.assertEqual(calm(self, fault_of_services, tuple(services)), due, services)

    def one(self, value, word):
        """Look at a service alone, and between others."""
        self.check([value], word and (0, word))
        other = service([A], name="other")
        self.check([other, value, (None, (), None, None)], (1, word) if word else (2, "name"))

    def test_right_ones(self):
        self.check([], None)
        for choice in ("turns", "least", "marks"):
            for hold in (None, 0, 1, 1000000):
                self.one(service([A, B, C], choice, hold), None)
        names = ["a" * (at + 1) for at in range(8)] + ["b" * (at + 1) for at in range(8)]
        self.check([service([A], name=name) for name in names], None)

    def test_services(self):
        names = ["a" * (at + 1) for at in range(8)] + ["b" * (at + 1) for at in range(9)]
        self.check([service([A], name=name) for name in names], (16, "services"))
        self.check([(None, (), None, None)] * 17, (16, "services"))
        self.check([(None, (), None, None)] * 16, (0, "name"))

    def test_name_and_twice(self):
        for name in ODD + ("abcdefghijk", "Web", "web1"):
            if name not in ("x", "cut"):
                self.one((name, (), None, None), "name")
        self.one(service([A], name="abcdefghij"), None)
        self.check([service([A]), ("web", (), None, None)], (1, "twice"))

    def test_choice(self):
        for choice in ODD + ("turn", "Least", ("marks",), ["marks"]):
            self.one(("web", (), choice, "x"), "choice")

    def test_hold(self):
        for hold in ODD + (-1, 1000001, (5,)):
            if hold is not None and (type(hold) is not int or hold not in (0, 5)):
                self.one(("web", (), "turns", hold), "hold")

    def test_servers(self):
        wrong = (None, None, None, None, None)
        self.one(service([]), "servers")
        self.one(service([wrong] * 33), "servers")
        names = [a + b for a in "abcdef" for b in "abcdef"]
        self.one(service([server(name) for name in names[:32]]), None)
        self.one(service([server(name) for name in names[:33]]), "servers")

    def test_server(self):
        for name in ODD + ("abcdefghijk", "A", "a1"):
            if name not in ("x", "cut"):
                for health in ("up", "odd"):
                    self.one(service([A, (name, None, None, None, health), (None,) * 5]), "server")
        self.one(service([server("abcdefghij")]), None)

    def test_weight(self):
        for choice, most in (("turns", 100), ("least", 100), ("marks", 8)):
            for weight in (0, 1, most):
                self.one(service([server("a", weight)], choice), None)
            for weight in (-1, most + 1, True, False, None, "1", 1.0, (1,)):
                self.one(service([B, server("a", weight, None), (None,) * 5], choice), "weight")

    def test_health(self):
        for health in ("up", "down", "draining"):
            self.one(service([server("a", 1, health)]), None)
        for health in ODD + ("Up", "drain", ("up",), ["up"]):
            self.one(service([B, server("a", 1, health), (None,) * 5]), "health")

    def test_alike(self):
        self.one(service([A, B, server("a")]), "alike")
        # All servers are looked at ahead of it.
        self.one(service([A, A, server("b", -1)]), "weight")
        self.one(service([A, A, server("b", 1, "x")]), "health")

    def test_addresses_and_ports_are_not_looked_at(self):
        for value in ODD:
            self.one(service([("a", value, value, 1, "up")]), None)


class Eligible(unittest.TestCase):
    def test_up_and_with_a_weight(self):
        servers = [server("a", 0), server("b", 1), server("c", 1, "down"), server("d", 1, "draining"), server("e", 100)]
        self.assertEqual(calm(self, eligible, service(servers)), [1, 4])
        self.assertEqual(eligible(service([server("a", 0)])), [])


class Case(unittest.TestCase):
    def take(self, services, state, client, moment, index=0):
        """Take a server; look at what is counted, and that looking tells the same."""
        found = calm(self, take, tuple(services), index, state, client, moment)
        self.assertEqual((type(found), len(found), sorted(found[1])), (tuple, 2, ["clients", "dues", "kept", "open"]))
        place, behind = found
        for name in behind:
            self.assertIsNot(behind[name], state[name])
        value = services[index]
        self.assertEqual(calm(self, look, value, state, client, moment), place)
        opened, clients = dict(state["open"]), dict(state["clients"])
        if place is not None:
            name = value[1][place][0]
            opened[value[0], name] = opened.get((value[0], name), 0) + 1
            clients[value[0], client, name] = clients.get((value[0], client, name), 0) + 1
        self.assertEqual((behind["open"], behind["clients"]), (opened, clients))
        return place, behind

    def end(self, state, name, client, moment, of="web"):
        found = calm(self, ended, state, of, name, client, moment)
        for key in found:
            self.assertIsNot(found[key], state[key])
        self.assertNotIn(0, list(found["open"].values()) + list(found["clients"].values()))
        self.assertEqual(found["dues"], state["dues"])
        return found

    def places(self, value, many, state=None):
        state, found = state or empty_state(), []
        for turn in range(many):
            place, state = self.take((value,), state, 7, turn)
            found.append(place)
        return found, state


class States(Case):
    def test_at_the_beginning(self):
        self.assertEqual(empty_state(), {"dues": {}, "open": {}, "clients": {}, "kept": {}})
        empty_state()["open"]["x"] = 1
        self.assertEqual(empty_state()["open"], {})

    def test_nothing_is_counted_as_0(self):
        _, state = self.take((service([A, B]),), empty_state(), 7, 5)
        _, state = self.take((service([A]),), state, 7, 5)
        self.assertEqual(state["open"], {("web", "a"): 2})
        state = self.end(state, "a", 7, 6)
        self.assertEqual((state["open"], state["clients"]), ({("web", "a"): 1}, {("web", 7, "a"): 1}))
        state = self.end(state, "a", 7, 6)
        self.assertEqual((state["open"], state["clients"], state["kept"]), ({}, {}, {}))

    def test_clients_and_services_are_counted_apart(self):
        services = (service([A]), service([A], name="mail"))
        state = empty_state()
        for index, client in ((0, 7), (0, 8), (1, 7), (0, 7)):
            _, state = self.take(services, state, client, 5, index)
        self.assertEqual(state["open"], {("web", "a"): 3, ("mail", "a"): 1})
        self.assertEqual(state["clients"], {("web", 7, "a"): 2, ("web", 8, "a"): 1, ("mail", 7, "a"): 1})
        state = self.end(state, "a", 7, 6, "mail")
        self.assertEqual((state["open"], len(state["clients"])), ({("web", "a"): 3}, 2))

    def test_none(self):
        for choice in ("turns", "least", "marks"):
            value = service([C, server("a", 0)], choice, 5)
            self.assertEqual(self.take((value,), empty_state(), 7, 5), (None, empty_state()))


class Turns(Case):
    def test_the_example(self):
        found, state = self.places(service([A, B, C]), 3)
        self.assertEqual((found, state["open"]), ([0, 1, 0], {("web", "a"): 2, ("web", "b"): 1}))
        self.assertEqual(state["dues"], {"web": ((("a", 2), ("b", 1)), (0, 0))})

    def test_dues(self):
        _, state = self.places(service([A, B, C]), 1)
        self.assertEqual(state["dues"]["web"], ((("a", 2), ("b", 1)), (-1, 1)))
        _, state = self.places(service([A, B, C]), 2)
        self.assertEqual(state["dues"]["web"], ((("a", 2), ("b", 1)), (1, -1)))

    def test_the_first_of_those_to_whom_most_is_due(self):
        self.assertEqual(self.places(service([server("b"), server("a"), server("c")]), 6)[0], [0, 1, 2, 0, 1, 2])
        self.assertEqual(self.places(service([server("a", 5), server("b"), server("c")]), 7)[0], [0, 0, 1, 0, 2, 0, 0])

    def test_the_dues_begin_anew_with_another_row(self):
        value = service([A, B, C])
        _, state = self.places(value, 1)
        for other in ([server("a", 3), B], [B, A], [A, server("c")], [A, B, server("c")], [A]):
            place, behind = self.take((service(other),), state, 7, 5)
            fresh, due = self.take((service(other),), empty_state(), 7, 5)
            self.assertEqual((place, behind["dues"]), (fresh, due["dues"]))
        # Addresses, ports, and those who are not eligible, do not count.
        for other in ([A[:1] + (9, 9) + A[3:], B, C], [C, A, server("d", 0), B]):
            place, behind = self.take((service(other),), state, 7, 5)
            self.assertEqual(other[place][0], "b")
            self.assertEqual(behind["dues"]["web"], ((("a", 2), ("b", 1)), (1, -1)))
        # It counts what the row was at the turn before: as it was again, nothing else has been between.
        self.assertEqual(self.take((value,), state, 7, 5)[0], 1)

    def test_a_turn_that_nobody_gets_changes_no_dues(self):
        _, state = self.places(service([A, B]), 1)
        place, behind = self.take((service([C]),), state, 7, 5)
        self.assertEqual((place, behind), (None, state))

    def test_looking_is_no_turn(self):
        value, state = service([A, B]), empty_state()
        for _ in range(3):
            self.assertEqual(calm(self, look, value, state, 7, 5), 0)

    def test_services_turn_apart(self):
        services = (service([A, B]), service([A, B], name="mail"))
        _, state = self.take(services, empty_state(), 7, 5)
        self.assertEqual(self.take(services, state, 7, 5, 1)[0], 0)
        self.assertEqual(self.take(services, state, 7, 5, 0)[0], 1)

    def test_by_weights(self):
        draw = random.Random(453)
        for _ in range(60):
            weights = [draw.choice([1, 1, 2, 3, 7, 100, draw.randint(1, 20)]) for _ in range(draw.randint(1, 6))]
            value, total = service([server("s" + "abcdef"[at], weight) for at, weight in enumerate(weights)]), sum(weights)
            found, state = [], empty_state()
            for turn in range(1, 2 * total + 1):
                place, state = take((value,), 0, state, 7, 5)
                found.append(place)
                dues = state["dues"]["web"][1]
                self.assertEqual(list(dues), [weight * turn - total * found.count(at) for at, weight in enumerate(weights)])
                self.assertGreater(min(dues), -total)
                if turn % total == 0:
                    self.assertEqual([found.count(at) for at in range(len(weights))],
                                     [weight * turn // total for weight in weights])


class Least(Case):
    def test_the_fewest_for_the_weight(self):
        value = service([server("a", 2), server("b", 1), server("c", 100, "down")], "least")
        for opened, due in (((0, 0), 0), ((1, 0), 1), ((1, 1), 0), ((2, 1), 0), ((3, 1), 1), ((3, 2), 0), ((4, 2), 0),
                            ((5, 2), 1)):
            many = {("web", name): count for name, count in zip("ab", opened) if count}
            self.assertEqual(self.take((value,), state_of(open=many), 7, 5)[0], due, opened)

    def test_equal_ones(self):
        value = service([server("b", 3), server("a", 3), server("c", 1)], "least")
        self.assertEqual(self.places(value, 8)[0], [0, 1, 2, 0, 1, 0, 1, 0])

    def test_others_do_not_count(self):
        value = service([A, B], "least")
        self.assertEqual(self.take((value,), state_of(open={("mail", "a"): 9}), 7, 5)[0], 0)
        self.assertEqual(self.take((value,), state_of(open={("web", "a"): 9}), 7, 5)[0], 1)
        self.assertEqual(self.take((value,), state_of(open={("web", "a"): 9}), 7, 5)[1]["dues"], {})

    def test_by_fractions(self):
        draw = random.Random(454)
        for _ in range(300):
            servers = [server(name, draw.choice([0, 1, 2, 3, 99, 100]), draw.choice(["up", "up", "down", "draining"]))
                       for name in "abcdef"]
            opened = {("web", name): draw.randint(1, 300) for name in "abcdef" if draw.randrange(3)}
            places = [at for at, row in enumerate(servers) if row[4] == "up" and row[3]]
            due = min(places, key=lambda at: (Fraction(opened.get(("web", servers[at][0]), 0), servers[at][3]), at), default=None)
            self.assertEqual(self.take((service(servers, "least"),), state_of(open=opened), 7, 5)[0], due)


class Marks(Case):
    def naive(self, client, name, copy):
        value = 7
        for number in [client] + [ord(letter) for letter in name] + [copy]:
            value = (value * 1000003 + number + 1) % MARKS
        return value

    def test_marks_and_ranks(self):
        self.assertEqual(mark(0, "a", 1), ((7 * 1000003 + 1) * 1000003 + 98) * 1000003 % MARKS + 2)
        for client in (0, 1, 7, 0x08080808, 2 ** 32 - 1):
            for name in ("a", "ab", "ba", "abcdefghij"):
                for copy in (1, 2, 8):
                    self.assertEqual(mark(client, name, copy), self.naive(client, name, copy))
                    due = max(self.naive(client, name, number) for number in range(1, copy + 1))
                    self.assertEqual(calm(self, rank, client, server(name, copy)), due)

    def test_the_greatest_rank(self):
        draw = random.Random(455)
        for _ in range(300):
            names = draw.choice([list("abcdef"), ["alpha", "bravo", "chess", "delta", "eagle", "abcdefghij"]])
            servers = [server(name, draw.choice([0, 1, 2, 8]), draw.choice(["up", "up", "down", "draining"]))
                       for name in draw.sample(names, 6)]
            client = draw.randrange(2 ** 32)
            ranks = [(max(self.naive(client, row[0], copy) for copy in range(1, row[3] + 1)), at)
                     for at, row in enumerate(servers) if row[4] == "up" and row[3]]
            due = max(ranks)[1] if ranks else None
            found = self.take((service(servers, "marks"),), empty_state(), client, 5)
            self.assertEqual((found[0], found[1]["dues"]), (due, {}))

    def client_with(self, name, due):
        """Return the client whose mark for the first copy of a server is this number."""
        back = pow(1000003, -1, MARKS)
        value = (due - 2) * back
        for letter in name[::-1]:
            value = (value - ord(letter) - 1) * back
        return (value - 7 * 1000003 - 1) % MARKS

    def test_each_copy_counts(self):
        for first, due in ((5, (5, 6, 12)), (MARKS - 1, (MARKS - 1,) * 3), (0, (0, 1, 7)),
                           (MARKS - 2, (MARKS - 2, MARKS - 1, MARKS - 1))):
            client = self.client_with("abc", first)
            self.assertEqual(mark(client, "abc", 1), first)
            for weight, most in zip((1, 2, 8), due):
                self.assertEqual(rank(client, server("abc", weight)), most)
        # Nobody has a greater mark than this one, so this server is chosen.
        client = self.client_with("abc", MARKS - 1)
        servers = [server(name, 8) for name in ("bcd", "abc", "cde")]
        self.assertEqual(look(service(servers, "marks"), empty_state(), client, 5), 1)

    def test_of_equal_ones_the_least_name(self):
        # A client for whom "a" and "bb" have the same marks: x times m plus 98 is x times m squared plus 99 m plus 99.
        m = 1000003
        x = (99 * m + 1) * pow(m - m * m, -1, MARKS) % MARKS
        client = (x - 7 * m - 1) % MARKS
        for weight in (1, 3):
            first, second = server("a", weight), server("bb", weight)
            self.assertEqual(rank(client, first), rank(client, second))
            self.assertEqual(look(service([first, second], "marks"), empty_state(), client, 5), 0)
            self.assertEqual(look(service([second, first], "marks"), empty_state(), client, 5), 1)

    def test_who_comes_gets_clients_alone(self):
        # Names of some letters, and addresses from all over, spread the marks.
        names, draw = ["alpha", "bravo", "chess", "delta", "eagle"], random.Random(1)
        few, more = [server(name, 3) for name in names[:4]], [server(name, 3) for name in names]
        heavier = [server(name, 5 if name == "bravo" else 3) for name in names[:4]]
        moved = {"eagle": 0, "bravo": 0}
        for _ in range(2000):
            client = draw.randrange(2 ** 32)
            old = few[look(service(few, "marks"), empty_state(), client, 5)][0]
            for others, name in ((more, "eagle"), (heavier, "bravo")):
                new = others[look(service(others, "marks"), empty_state(), client, 5)][0]
                self.assertIn(new, (old, name))
                moved[name] += new != old
        self.assertGreater(moved["eagle"], 100, moved)


class Kept(Case):
    def test_kept_with_the_first_one(self):
        value = service([A, B], "turns", 10)
        place, state = self.take((value,), empty_state(), 7, 100)
        self.assertEqual((place, state["kept"]), (0, {("web", 7): ("a", 100)}))
        dues = state["dues"]
        for moment in (100, 105, 109, 500):
            # As long as something is open it stays, and no turn passes.
            place, state = self.take((value,), state, 7, moment)
            self.assertEqual((place, state["kept"], state["dues"]), (0, {("web", 7): ("a", 100)}, dues))
        # Others get their turns.
        self.assertEqual(self.take((value,), state, 8, 500)[0], 1)

    def test_until_when(self):
        value = service([A, B], "turns", 10)
        _, state = self.take((value,), empty_state(), 7, 100)
        for end, due in ((100, 110), (103, 113), (250, 260)):
            behind = self.end(state, "a", 7, end)
            self.assertEqual(behind["kept"], {("web", 7): ("a", end)})
            for moment in (end, due - 1):
                self.assertEqual(swept_clients((value,), behind, moment), behind)
                self.assertEqual(self.take((value,), behind, 7, moment)[0], 0)
            for moment in (due, due + 1):
                swept = calm(self, swept_clients, (value,), behind, moment)
                self.assertEqual(swept, {**behind, "kept": {}})
                place, again = self.take((value,), behind, 7, moment)
                self.assertEqual((place, again["kept"]), (1, {("web", 7): ("b", moment)}))

    def test_the_greatest_moment(self):
        value = service([A, B], "turns", 10)
        _, state = self.take((value,), empty_state(), 7, 100)
        _, state = self.take((value,), state, 7, 104)
        state = self.end(state, "a", 7, 108)
        self.assertEqual(state["kept"], {("web", 7): ("a", 108)})
        state = self.end(state, "a", 7, 106)
        self.assertEqual(state["kept"], {("web", 7): ("a", 108)})

    def test_first_kept_counts_if_nothing_ended(self):
        value = service([A, B], "turns", 10)
        state = state_of(kept={("web", 7): ("a", 100)})
        self.assertEqual(self.take((value,), state, 7, 109)[0], 0)
        self.assertEqual(self.take((value,), state, 7, 109)[1]["kept"], {("web", 7): ("a", 100)})
        self.assertEqual(self.take((value,), state, 7, 110)[1]["kept"], {("web", 7): ("a", 110)})

    def test_what_ends_elsewhere_does_not_count(self):
        state = state_of(kept={("web", 7): ("a", 100)}, open={("web", "b"): 2, ("web", "a"): 1, ("mail", "a"): 1},
                         clients={("web", 7, "b"): 2, ("web", 8, "a"): 1, ("mail", 7, "a"): 1})
        for name, client, of in (("b", 7, "web"), ("a", 8, "web"), ("a", 7, "mail")):
            self.assertEqual(self.end(state, name, client, 150, of)["kept"], {("web", 7): ("a", 100)})
        # Nor does what of it is open: only things of the client at this server.
        self.assertEqual(swept_clients((service([A, B], "turns", 10),), state, 110)["kept"], {})

    def test_a_hold_of_0(self):
        value = service([A, B], "turns", 0)
        place, state = self.take((value,), empty_state(), 7, 100)
        self.assertEqual(state["kept"], {("web", 7): ("a", 100)})
        self.assertEqual(self.take((value,), state, 7, 900)[0], 0)
        behind = self.end(state, "a", 7, 100)
        self.assertEqual(swept_clients((value,), behind, 100)["kept"], {})
        self.assertEqual(self.take((value,), behind, 7, 100)[0], 1)

    def test_another_versions_hold(self):
        long, short, none = (service([A, B], "turns", hold) for hold in (100, 10, None))
        _, state = self.take((long,), empty_state(), 7, 100)
        state = self.end(state, "a", 7, 100)
        self.assertEqual(swept_clients((long,), state, 150)["kept"], {("web", 7): ("a", 100)})
        behind = swept_clients((short,), state, 150)
        self.assertEqual(behind["kept"], {})
        # Who is found not to be kept is not kept again by a later hold.
        self.assertEqual(swept_clients((long,), behind, 150)["kept"], {})
        for services in ((none,), (), (service([A], "turns", 100, "mail"),)):
            self.assertEqual(calm(self, swept_clients, services, state, 100)["kept"], {})

    def test_without_a_hold_not_even_open_things_keep(self):
        _, state = self.take((service([A, B], "turns", 10),), empty_state(), 7, 100)
        none = service([A, B])
        self.assertEqual(swept_clients((none,), state, 100), {**state, "kept": {}})
        self.assertEqual(look(none, state, 7, 100), 1)
        place, behind = self.take((none,), state, 7, 100)
        self.assertEqual((place, behind["kept"]), (1, {}))

    def test_things_given_without_a_hold_count_later(self):
        value = service([A, B], "turns", 10)
        _, state = self.take((service([A]),), empty_state(), 7, 90)
        self.assertEqual(state["kept"], {})
        place, state = self.take((value,), state, 7, 100)
        self.assertEqual(place, 0)
        state = self.end(state, "a", 7, 105)
        # The other one is open still.
        self.assertEqual(swept_clients((value,), state, 900)["kept"], {("web", 7): ("a", 105)})

    def test_a_server_that_is_not_eligible(self):
        value = service([A, B], "turns", 10)
        _, state = self.take((value,), empty_state(), 7, 100)
        for other in (server("a", 2, "down"), server("a", 2, "draining"), server("a", 0), server("c", 2)):
            changed = service([other, B, server("d")], "turns", 10)
            place, behind = self.take((changed,), state, 7, 105)
            self.assertEqual(changed[1][place][0], behind["kept"]["web", 7][0])
            self.assertNotEqual(behind["kept"]["web", 7][0], "a")
            self.assertEqual(behind["kept"]["web", 7][1], 105)
        # If nobody is eligible it stays kept as it was.
        place, behind = self.take((service([server("a", 0)], "turns", 10),), state, 7, 105)
        self.assertEqual((place, behind), (None, state))
        # The name tells which one it is, wherever it stands.
        self.assertEqual(self.take((service([B, server("a", 9, "up", 77, 99)], "least", 10),), state, 7, 105)[0], 1)

    def test_every_choice_keeps(self):
        for choice in ("turns", "least", "marks"):
            value = service([A, B], choice, 10)
            first, state = self.take((value,), empty_state(), 7, 100)
            name = value[1][first][0]
            self.assertEqual(state["kept"], {("web", 7): (name, 100)})
            heavier = service([server("a", 8, "up" if name == "a" else "down"), server("b", 8, "up"), server("d", 8)], choice, 10)
            if name == "b":
                heavier = service([server("d", 8), B], choice, 10)
            self.assertEqual(heavier[1][self.take((heavier,), state, 7, 105)[0]][0], name)

    def test_all_who_are_not_kept_go(self):
        services = (service([A, B], "turns", 10), service([A, B], "least", 50, "mail"))
        state = state_of(kept={("web", 1): ("a", 100), ("web", 2): ("a", 105), ("mail", 1): ("a", 70), ("old", 1): ("a", 110)})
        found = self.take(services, state, 9, 110)[1]["kept"]
        self.assertEqual(found, {("web", 2): ("a", 105), ("mail", 1): ("a", 70), ("web", 9): ("a", 110)})
        place, found = self.take((service([C], "turns", 10),), state, 9, 110)
        self.assertEqual((place, found["kept"]), (None, {("web", 2): ("a", 105)}))

    def test_256_pairs_and_one_more(self):
        value, mail = service([A, B], "turns", 10), service([A], "turns", 10, "mail")
        state = state_of(kept={("web", client): ("a", 100) for client in range(255)})
        _, state = self.take((value, mail), state, 999, 105)
        self.assertEqual(len(state["kept"]), 256)
        for index, client in ((0, 1000), (1, 1000), (1, 5)):
            place, behind = self.take((value, mail), state, client, 106, index)
            self.assertIsNotNone(place)
            self.assertEqual(behind["kept"], state["kept"])
        # Who is kept stays so, and may get another one.
        down = service([server("a", 1, "down"), B], "turns", 10)
        place, behind = self.take((down, mail), state, 5, 106)
        self.assertEqual((place, behind["kept"]["web", 5], len(behind["kept"])), (1, ("b", 106), 256))
        # When others are no longer kept there is room.
        _, behind = self.take((value, mail), state, 1000, 110)
        self.assertEqual(sorted(behind["kept"]), [("web", 999), ("web", 1000)])

    def test_rows_of_deeds(self):
        """Who is kept, reckoned from all that was given and has ended."""
        draw = random.Random(456)
        for _ in range(60):
            state, moment, things, kept = empty_state(), 0, [], {}
            for _ in range(50):
                moment += draw.choice([0, 0, 1, 3, 8])
                hold = draw.choice([0, 5, 5, 5, 20, None])
                services = (service([server(name, draw.choice([0, 1, 3, 3]), draw.choice(["up", "up", "up", "down"]))
                                     for name in "abc"], draw.choice(["turns", "least", "marks"]), hold),)
                client = draw.randint(1, 4)
                for one in list(kept):
                    name, until = kept[one]
                    if hold is None or (one, name) not in things and moment >= until + hold:
                        del kept[one]
                if things and draw.randrange(2):
                    client, name = draw.choice(things)
                    things.remove((client, name))
                    state = self.end(swept_clients(services, state, moment), name, client, moment)
                    if kept.get(client, ("",))[0] == name:
                        kept[client] = (name, max(kept[client][1], moment))
                else:
                    place, state = self.take(services, state, client, moment)
                    if place is not None:
                        name = services[0][1][place][0]
                        up = [services[0][1][at][0] for at in eligible(services[0])]
                        if client in kept and kept[client][0] in up:
                            self.assertEqual(name, kept[client][0])
                        elif hold is not None:
                            kept[client] = (name, moment)
                        things.append((client, name))
                self.assertEqual({key[1]: row for key, row in state["kept"].items()}, kept)
                self.assertEqual(sum(state["open"].values()), len(things))
                self.assertEqual(state["clients"], {("web",) + thing: things.count(thing) for thing in things})

    def test_nothing_is_shared(self):
        state = state_of(kept={("web", 7): ("a", 100)}, open={("web", "a"): 1}, clients={("web", 7, "a"): 1},
                         dues={"web": ((("a", 2),), (0,))})
        before = copy.deepcopy(state)
        value = service([A], "turns", 5)
        for found in (take((value,), 0, state, 7, 100)[1], swept_clients((value,), state, 100),
                      ended(state, "web", "a", 7, 100), take((service([C]),), 0, state, 7, 100)[1]):
            for name in list(found):
                found[name].clear()
            found.clear()
            self.assertEqual(state, before)


if __name__ == "__main__":
    unittest.main()
