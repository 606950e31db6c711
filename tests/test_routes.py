"""Points 530, 531, 534 and 535: routes and errors, their faults, and the route of a request."""

import random
import unittest

from onepolicy.routes import error_row, fault_errors, fault_routes, fits_route, route_of
from edge_samples import ERRORS, LIMITS, WEB, route
from samples import calm, put
from table_samples import ODD

METHODS = ("GET", "HEAD", "PUT", "POST", "DELETE")


class Faults(unittest.TestCase):
    def check(self, routes, due):
        policy = {"routes": routes, "services": (WEB,), "limits": LIMITS}
        self.assertEqual(calm(self, fault_routes, policy), due, routes)

    def one(self, row, due):
        """Look at a row alone, and behind a right one."""
        other = route(host="other", limits=("few",))
        self.check((row,), due and (due, 0))
        self.check((other, row), due and (due, 1))

    def wrong(self, at, *values):
        for value in values:
            self.one(put(route(), (at,), value), "route")

    def test_right_ones(self):
        self.check((), None)
        self.one(route(), None)
        self.one(route("a-1.b", ("x", "y z"), ("PUT",), "web", 2, ("p", "q"), ("few", "slow"), 1, 1), None)
        self.one(route("9" * 60, ("a" * 380,) * 8, METHODS, "web", 8, ("a" * 20,) * 4, ("wide",), 1000, 3), None)
        self.check(tuple(route(prefix=(str(at),)) for at in range(40)), None)

    def test_no_tuple_of_a_length_that_can_be(self):
        for value in ODD + ("routes", [route()], {0: route()}):
            if value not in ((), (0,), ((0, 1),)):
                self.check(value, ("route", None))
        self.check(tuple(route(prefix=(str(at),)) for at in range(41)), ("route", None))
        self.check((None,) * 41, ("route", None))
        self.check((0,), ("route", 0))

    def test_rows_that_are_none(self):
        for value in ODD + (list(route()), route()[:8], route() + (1,)):
            self.one(value, "route")

    def test_each_field(self):
        self.wrong(0, "", "A", "a b", "a" * 61, "**", "a*", None, 5, ("a",))
        self.wrong(1, None, "a", ["a"], ("a",) * 9, ("",), (".",), ("..",), ("a/b",), ("\\",), ("a" * 381,), (5,))
        self.wrong(2, None, (), "GET", ["GET"], ("HEAD", "GET"), ("GET", "GET"), ("GET", "PATCH"), ("get",), (None,),
                   METHODS + ("X",), ("GET", "DELETE", "POST"))
        self.wrong(3, None, 5, ("web",), ["web"], True)
        self.wrong(4, -1, 1, None, "0", True, False)
        self.one(route(prefix=("a",), take=1), None)
        self.one(route(prefix=("a",), take=2), "route")
        self.wrong(5, None, "a", ["a"], ("a",) * 5, ("",), (".",), ("..",), ("a b",), ("~",), ("a" * 21,), (5,))
        self.one(route(put=("a",) * 4), None)
        self.wrong(6, None, "few", ["few"], ("few", "few"), (5,), ("a", "b", "c", "d", "e"), (("few",),), (["few"],))
        self.wrong(7, 0, 1001, -1, None, True, "1", 1.0)
        self.wrong(8, 0, 4, None, True, "1")

    def test_no_service(self):
        for name in ("webs", "", "WEB", "few"):
            self.one(route(service=name), "no service")

    def test_no_limit(self):
        for names in (("fews",), ("few", "x"), ("web",), ("",)):
            self.one(route(limits=names), "no limit")

    def test_same_route(self):
        self.check((route(), route()), ("same route", 1))
        self.check((route(methods=("GET", "PUT")), route(methods=("PUT", "POST"), take=0, wait=5)), ("same route", 1))
        self.check((route(methods=("GET",)), route(methods=("PUT",))), None)
        self.check((route(prefix=("a",)), route(prefix=("b",)), route()), None)
        self.check((route("a"), route("b"), route()), None)
        rows = (route("a", methods=("GET",)), route("a", methods=("PUT",)), route(), route("a", methods=("HEAD", "PUT")))
        self.check(rows, ("same route", 3))

    def test_words_in_their_order(self):
        gone, free, same = route(service="x"), route("b", limits=("x",)), route("c")
        self.check((same, same, free, gone, None), ("route", 4))
        self.check((same, same, free, gone), ("no service", 3))
        self.check((same, same, free), ("no limit", 2))
        self.check((same, same), ("same route", 1))
        self.one(route(service="x", limits=("x",)), "no service")
        self.one(route(service="x", limits=("x",), wait=0), "route")
        self.check((free, gone), ("no service", 1))

    def test_only_these_parts_are_looked_at(self):
        self.assertIsNone(fault_routes({"routes": (route(),), "services": (WEB,), "limits": ()}))
        self.assertIsNone(fault_errors({"errors": ERRORS}))


class Fits(unittest.TestCase):
    def test_each_part(self):
        row = route("a.b", ("x", "y"), ("GET", "PUT"))
        for segments in (("x", "y"), ("x", "y", "z")):
            self.assertIs(fits_route(row, "GET", "a.b", segments), True)
            self.assertIs(fits_route(row, "PUT", "a.b", segments), True)
            self.assertIs(fits_route(row, "POST", "a.b", segments), False)
            self.assertIs(fits_route(row, "GET", "a", segments), False)
            self.assertIs(fits_route(put(row, (0,), "*"), "GET", "any", segments), True)
        for segments in ((), ("x",), ("y", "x"), ("x", "yy"), ("X", "y"), ("a", "x", "y")):
            self.assertIs(fits_route(row, "GET", "a.b", segments), False)
        self.assertIs(fits_route(route(), "GET", "h", ()), True)

    def test_the_route(self):
        rows = (route(prefix=("a", "b", "c")), route("h", ("a",)), route("h", ("a", "b"), ("PUT",)), route(),
                route("h", ("z",)))
        for method, host, segments, due in (
            ("GET", "h", ("a",), 1), ("GET", "h", ("a", "b", "c"), 1), ("PUT", "h", ("a", "b", "c"), 2),
            ("PUT", "h", ("a", "x"), 1), ("GET", "h", ("q",), 3), ("GET", "g", ("a", "b", "c", "d"), 0),
            ("GET", "g", ("a", "b"), 3), ("GET", "h", (), 3), ("GET", "h", ("z", "z"), 4),
        ):
            self.assertEqual(calm(self, route_of, rows, method, host, segments), due)
        self.assertIsNone(route_of(rows[:3], "GET", "g", ("a",)))
        self.assertIsNone(route_of((), "GET", "h", ()))

    def test_the_host_goes_ahead_of_longer_prefixes(self):
        rows = (route(prefix=("a", "b")), route("h"))
        self.assertEqual(route_of(rows, "GET", "h", ("a", "b")), 1)
        self.assertEqual(route_of(rows, "GET", "i", ("a", "b")), 0)

    def test_random_tables(self):
        draw = random.Random(531)
        for _ in range(1500):
            keys = {(draw.choice(["h", "i", "*"]), tuple(draw.choices("ab", k=draw.randrange(3))), draw.choice(METHODS[:2]))
                    for _ in range(6)}
            rows = [route(host, prefix, (method,)) for host, prefix, method in keys]
            host, method, segments = draw.choice(["h", "i", "j"]), draw.choice(METHODS[:2]), tuple(draw.choices("ab", k=3))
            due = None
            for name in ("*", host):
                fits = [row for row in rows if row[0] == name and method in row[2] and segments[:len(row[1])] == row[1]]
                if fits:
                    due = rows.index(max(fits, key=lambda row: len(row[1])))
            self.assertEqual(route_of(tuple(rows), method, host, segments), due)


class Errors(unittest.TestCase):
    def check(self, errors, due):
        self.assertEqual(calm(self, fault_errors, {"errors": errors}), due, errors)

    def test_right_ones(self):
        self.check(ERRORS, None)
        self.check(tuple((word, 400, "") for word, _, _ in ERRORS), None)
        self.check(tuple((word, 599, "\\\" ~" * 50) for word, _, _ in ERRORS), None)

    def test_lengths(self):
        for value in ODD + (ERRORS[:5], ERRORS + ERRORS[:1], list(ERRORS), dict.fromkeys(range(6))):
            self.check(value, ("error", None))

    def test_rows(self):
        for at in range(6):
            row = ERRORS[at]
            for value in ODD + (list(row), row[:2], row + (1,), ("x",) + row[1:], ERRORS[at - 1]):
                self.check(put(ERRORS, (at,), value), ("error", at))
            for status in (399, 600, 0, True, None, "400", 400.0):
                self.check(put(ERRORS, (at, 1), status), ("error", at))
            for text in ("a" * 201, "%", "\n", None, 5, ("a",)):
                self.check(put(ERRORS, (at, 2), text), ("error", at))
            self.check(put(ERRORS, (at, 2), "a" * 200), None)
        self.check((ERRORS[1], ERRORS[0]) + ERRORS[2:], ("error", 0))
        self.check(put(put(ERRORS, (4, 1), 0), (2, 1), 0), ("error", 2))

    def test_error_row(self):
        for word, status, text in ERRORS:
            self.assertEqual(calm(self, error_row, ERRORS, word), (status, text))


if __name__ == "__main__":
    unittest.main()
