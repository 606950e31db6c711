"""Points 590 and 591: what is told outside, and that the insides are hidden."""

import copy
import random
import unittest

from onepolicy.hidden import twins
from onepolicy.plain import Plain
from onepolicy.sending import own_octets
from edge_samples import CLIENT, DNS, LIMITS, answer, ground, policy, request, route, server
from samples import PC, calm

DROP = ((), (("drop",), ()))


def services(names, choice="turns", hold=None, addresses=0, weights=1, health="up"):
    servers = tuple(server(name, PC + addresses + at, 8000 + addresses, weights, health) for at, name in enumerate(names))
    return (("web", servers, choice, hold), DNS)


class Twins(unittest.TestCase):
    def check(self, due, rows, one, other):
        self.assertEqual(calm(self, twins, ground(), 0, one, other, rows), due)

    def test_the_same(self):
        value = {1: (policy(), 0)}
        rows = [(1, 0, 1, ("request", (7, 0), CLIENT, request())), (2, 5, 1, ("inside", (7, 0), 1, ("answer", answer()))),
                (3, 6, 1, ("tick",))]
        self.check(None, rows, value, value)
        self.check(None, [], value, value)
        # Calls and what is sent are told inside alone.
        self.check(None, rows, value, {1: (policy(services=services("xyz", "marks", 5, 9)), 0)})

    def test_the_first_event_at_which_they_tell_not_the_same(self):
        one = {1: (policy(), 0)}
        other = {1: (policy(routes=()), 0)}
        rows = [(4, 0, 1, ("tick",)), (6, 0, 1, ("request", (7, 0), CLIENT, request())),
                (9, 1, 1, ("request", (8, 0), CLIENT, request()))]
        told = [("tell", 7, tuple(own_octets(policy(), "GET", "no route")))]
        self.check((6, [], told), rows, one, other)
        self.check((6, told, []), rows, other, one)

    def test_closings_are_told_outside(self):
        rows = [(1, 0, 1, ("request", (7, 0), CLIENT, request())), (2, 0, 2, ("tick",))]
        one = {1: (policy(), 0), 2: (policy(), 0)}
        other = {1: (policy(), 0), 2: (policy(), 2)}
        self.check((2, [], [("close", 7)]), rows, one, other)

    def test_the_worker_with_its_number(self):
        self.assertIsNone(twins(ground(4), 3, {1: (policy(), 0)}, {1: (policy(), 0)}, [(1, 0, 1, ("tick",))]))


class Insides(unittest.TestCase):
    """Runs of two plain workers whose services differ in servers, choices and holds."""

    def versions(self, draw, parts):
        """Return three versions with the same policies but for their services."""
        found = {}
        for number, part in enumerate(parts):
            names = draw.choice(["abc", "xyz", "dca"])
            found[number + 1] = (policy(services=services(
                names, draw.choice(["turns", "least", "marks"]), draw.choice([None, 0, 3, 40]), draw.randrange(20), draw.randint(1, 8)),
                **part), 0 if number < 2 else 3)
        return found

    def test_runs(self):
        draw = random.Random(591)
        total = 0
        for _ in range(60):
            parts = [dict(routes=(route(limits=draw.choice([(), ("few",), ("slow", "wide")]), tries=draw.randint(1, 3), wait=7),),
                          headers=draw.choice([(), (("set", "answer", "s", "v"),)])) for _ in range(3)]
            one, other = self.versions(draw, parts), self.versions(draw, parts)
            rows = self.rows(draw)
            self.assertIsNone(twins(ground(), 0, one, other, rows))
            plain = Plain(ground(), 0, None)
            total += sum(len(plain.take(copy.deepcopy(one), *row)[0]) for row in rows)
        self.assertGreater(total, 1000)

    def rows(self, draw):
        """Return a row of events: requests, faults, closings, reactions and ticks."""
        rows, moment, indexes, over = [], 0, {}, {}
        for number in range(1, 90):
            moment += draw.choice([0, 0, 1, 2, 6])
            version = 1 + number // 35
            connection = draw.randint(1, 6)
            client, index = CLIENT + connection % 3, indexes.get(connection, 0)
            kind = draw.randrange(12)
            if connection in over and kind < 6:
                continue
            if kind < 5:
                event = ("request", (connection, index), client, request(draw.choice(["GET", "HEAD", "DELETE"]), draw.choice(["/", "/.."])))
                indexes[connection] = index + 1
            elif kind == 5 and draw.randrange(4) == 0:
                event = draw.choice([("fault", (connection, index), client, "name"), ("gone", connection, client)])
                indexes[connection] = index + (event[0] == "fault")
                over[connection] = True
            elif kind < 11 and index:
                event = ("inside", (connection, draw.randrange(index)), draw.randint(1, 3), draw.choice(
                    ["refused", "broken", ("answer", answer()), ("answer", answer(body=None)), ("answer", answer(404))]))
            else:
                event = ("tick",)
            rows.append((number, moment, version, event))
        return rows


if __name__ == "__main__":
    unittest.main()
