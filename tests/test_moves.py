"""Point 457: the clients that move."""

import random
import unittest

from onepolicy.balance import empty_state, look
from onepolicy.moves import moves, right_moves
from samples import calm
from table_samples import ODD


NAMES = ("alpha", "bravo", "chess", "delta", "eagle", "fugue")


def service(weights, healths=None):
    """Return a service whose servers have these weights; names of some letters spread the marks."""
    healths = healths or ["up"] * len(weights)
    servers = tuple((name, 1, 80, weight, health) for name, weight, health in zip(NAMES, weights, healths))
    return ("web", servers, "marks", None)


OLD, NEW = service([1, 2, 3]), service([1, 2, 3, 4])
CLIENTS = [number * 104729 * 997 % 2 ** 32 for number in range(40)]


def server_of(value, client):
    place = look(value, empty_state(), client, 0)
    return None if place is None else value[1][place][0]


class Moves(unittest.TestCase):
    def test_who_moves(self):
        draw = random.Random(457)
        for _ in range(60):
            old, new = (service([draw.randrange(9) for _ in range(draw.randint(1, 6))],
                                [draw.choice(["up", "up", "down", "draining"]) for _ in range(6)]) for _ in range(2))
            clients = [draw.randrange(2 ** 32) for _ in range(30)]
            due = [(client, server_of(old, client), server_of(new, client)) for client in clients]
            due = [row for row in due if row[1] != row[2]]
            self.assertEqual(calm(self, moves, old, new, clients), due)
            self.assertIs(calm(self, right_moves, old, new, clients, due), True)

    def test_in_order_and_none_twice(self):
        found = moves(OLD, NEW, CLIENTS)
        self.assertTrue(5 < len(found) < 35)
        self.assertEqual({row[2] for row in found}, {"delta"})
        self.assertEqual(calm(self, moves, OLD, NEW, CLIENTS + CLIENTS), found)
        self.assertEqual(moves(OLD, NEW, CLIENTS[::-1] + CLIENTS), found[::-1])
        twice = [found[1][0], found[0][0], found[1][0], found[0][0]]
        self.assertEqual(moves(OLD, NEW, twice), [found[1], found[0]])

    def test_none(self):
        self.assertEqual(moves(OLD, OLD, CLIENTS), [])
        self.assertEqual(moves(OLD, NEW, []), [])
        nobody = service([0, 1], ["up", "down"])
        self.assertEqual(calm(self, moves, nobody, service([1]), [5, 6]), [(5, None, "alpha"), (6, None, "alpha")])
        self.assertEqual(moves(service([1]), nobody, [5]), [(5, "alpha", None)])
        self.assertEqual(moves(nobody, nobody, CLIENTS), [])

    def test_right_rows(self):
        due = moves(OLD, NEW, CLIENTS)
        self.assertIs(calm(self, right_moves, OLD, NEW, CLIENTS, due), True)
        self.assertIs(right_moves(OLD, OLD, CLIENTS, []), True)
        self.assertIs(right_moves(OLD, NEW, CLIENTS + CLIENTS, due), True)

    def test_wrong_rows(self):
        due = moves(OLD, NEW, CLIENTS)
        client, old, new = due[0]
        for rows in ODD + (tuple(due), due[1:], due[:-1], due[::-1], due + due[:1], [due[0]] + due, [list(row) for row in due],
                           [(client, new, old)] + due[1:], [(client, old)] + due[1:], [(client, old, new, 0)] + due[1:],
                           [None] + due[1:], [()] + due[1:], [(client, None, new)] + due[1:], [("x", old, new)] + due[1:],
                           [(client, old, "eagle")] + due[1:], {0: due}, [(float(client), old, new)] + due[1:], [due]):
            self.assertIs(calm(self, right_moves, OLD, NEW, CLIENTS, rows), False, rows)
        for rows in ODD:
            self.assertIs(right_moves(OLD, OLD, CLIENTS, rows), rows == [] and type(rows) is list)

    def test_truths_are_no_clients(self):
        nobody = service([0])
        self.assertIs(right_moves(nobody, service([1]), [1, 0], [(1, None, "alpha"), (0, None, "alpha")]), True)
        self.assertIs(right_moves(nobody, service([1]), [1, 0], [(True, None, "alpha"), (0, None, "alpha")]), False)
        self.assertIs(right_moves(nobody, service([1]), [1, 0], [(1, None, "alpha"), (False, None, "alpha")]), False)


if __name__ == "__main__":
    unittest.main()
