"""Point 458: health by results and by orders."""

import itertools
import random
import unittest

from onepolicy.health import observed, ordered, with_healths
from samples import calm


def results(text, name="a"):
    """Return results of one server: g for good ones, b for bad ones."""
    return [(name, sign == "g") for sign in text]


class Observed(unittest.TestCase):
    def check(self, rise, fall, text, due, states=None):
        found = calm(self, observed, states or {}, rise, fall, results(text))
        self.assertEqual(found, {"a": due}, (rise, fall, text))
        # One by one they make the same.
        states = dict(states or {})
        for row in results(text):
            states = observed(states, rise, fall, [row])
        self.assertEqual(states, found)

    def test_what_is_up(self):
        self.check(2, 3, "g", ("up", 0))
        self.check(2, 3, "b", ("up", 1))
        self.check(2, 3, "bb", ("up", 2))
        self.check(2, 3, "bbg", ("up", 0))
        self.check(2, 3, "bbgbb", ("up", 2))
        self.check(2, 3, "bbb", ("down", 0))
        self.check(2, 1, "b", ("down", 0))

    def test_what_is_down(self):
        down = {"a": ("down", 0)}
        self.check(2, 3, "b", ("down", 0), down)
        self.check(2, 3, "g", ("down", 1), down)
        self.check(2, 3, "gb", ("down", 0), down)
        self.check(2, 3, "gbg", ("down", 1), down)
        self.check(2, 3, "gg", ("up", 0), down)
        self.check(1, 3, "g", ("up", 0), down)
        self.check(2, 3, "bbbgg", ("up", 0))
        self.check(2, 3, "bbbggbbg", ("up", 0))

    def test_at_least_as_many(self):
        # Also if there were as many already, by other numbers.
        self.check(2, 3, "b", ("down", 0), {"a": ("up", 5)})
        self.check(2, 3, "g", ("up", 0), {"a": ("up", 5)})
        self.check(2, 3, "g", ("up", 0), {"a": ("down", 7)})
        self.check(9, 3, "g", ("down", 8), {"a": ("down", 7)})

    def test_what_is_draining(self):
        for text in ("g", "b", "bbbbb", "ggggg", "gbgb"):
            self.check(1, 1, text, ("draining", 0), {"a": ("draining", 0)})

    def test_names(self):
        states = {"b": ("down", 1), "c": ("draining", 0)}
        found = calm(self, observed, states, 2, 2, [("a", False), ("b", True), ("a", True), ("d", False), ("d", False)])
        self.assertEqual(found, {"a": ("up", 0), "b": ("up", 0), "c": ("draining", 0), "d": ("down", 0)})
        self.assertEqual(calm(self, observed, states, 1, 1, []), states)
        self.assertIsNot(observed(states, 1, 1, []), states)

    def test_by_rows(self):
        for rise, fall in itertools.product((1, 2, 3), (1, 2, 3)):
            for text in ("".join(signs) for signs in itertools.product("gb", repeat=7)):
                health, row = "up", 0
                for sign in text:
                    row = row + 1 if sign == ("b" if health == "up" else "g") else 0
                    if row == (fall if health == "up" else rise):
                        health, row = "down" if health == "up" else "up", 0
                self.assertEqual(observed({}, rise, fall, results(text)), {"a": (health, row)})


class Ordered(unittest.TestCase):
    def test_an_order_begins_the_counts_anew(self):
        for before in ("up", "down", "draining"):
            for health in ("up", "down", "draining"):
                states = {"a": (before, 2), "b": ("up", 1)}
                found = calm(self, ordered, states, "a", health)
                self.assertEqual(found, {"a": (health, 0), "b": ("up", 1)})
        self.assertEqual(calm(self, ordered, {}, "a", "draining"), {"a": ("draining", 0)})

    def test_rows_with_orders(self):
        states = observed({}, 2, 3, results("bb"))
        states = ordered(states, "a", "up")
        self.assertEqual(observed(states, 2, 3, results("bb")), {"a": ("up", 2)})
        states = ordered(states, "a", "draining")
        self.assertEqual(observed(states, 2, 3, results("bbbbb")), {"a": ("draining", 0)})
        states = ordered(observed(states, 2, 3, results("ggg")), "a", "down")
        self.assertEqual(observed(states, 2, 3, results("g")), {"a": ("down", 1)})


class WithHealths(unittest.TestCase):
    def test_all_healths(self):
        draw = random.Random(458)
        for _ in range(50):
            names = ["a", "b", "c", "d"]
            services = tuple(
                (name, tuple((one, 5, 80, 3, draw.choice(["up", "down", "draining"])) for one in draw.sample(names, 3)),
                 "turns", draw.choice([None, 5]))
                for name in ("web", "mail")
            )
            states = {name: (draw.choice(["up", "down", "draining"]), draw.randrange(3)) for name in names if draw.randrange(2)}
            found = calm(self, with_healths, services, states)
            self.assertEqual((type(found), len(found)), (tuple, 2))
            for old, new in zip(services, found):
                self.assertEqual((old[0], old[2:], type(new[1])), (new[0], new[2:], tuple))
                for server, other in zip(old[1], new[1]):
                    # A name that is not there is up.
                    self.assertEqual(other, server[:4] + (states.get(server[0], ("up", 0))[0],))

    def test_none(self):
        self.assertEqual(with_healths((), {"a": ("down", 0)}), ())


if __name__ == "__main__":
    unittest.main()
