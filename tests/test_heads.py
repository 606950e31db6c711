"""Points 500 to 505: octets, methods, headers, requests and answers, each of any value."""

import unittest

from onepolicy import heads
from onepolicy.heads import (
    CR, LF, METHODS, MOST_BODY, answers_have_body, has_body, is_answer, is_headers, is_host, is_method, is_name, is_number,
    is_number_of_octets, is_octets, is_repeatable, is_request, is_signs, is_size, is_target, is_value, sign_of, values_of,
)
from samples import calm
from table_samples import ODD

SIGNS = "".join(chr(number) for number in range(32, 127) if number != 37)
NAMES = "abcdefghijklmnopqrstuvwxyz0123456789-"
HOST = ("host", "a.example")
PLAIN = (("x", "1"), HOST, ("accept", ""), ("x", "2"))


def some(many, start=()):
    """Return so many headers, the first ones among them."""
    return tuple(start) + (("x", "y"),) * (many - len(start))


class Case(unittest.TestCase):
    def ask(self, function, due, *given):
        self.assertIs(calm(self, function, *given), due, given)


class Octets(Case):
    def test_constants(self):
        self.assertEqual((CR, LF, MOST_BODY), (13, 10, 20000))

    def test_numbers(self):
        for value in (0, 1, -1, 10 ** 20):
            self.ask(is_number, True, value)
        for value in ODD:
            self.ask(is_number, type(value) is int, value)
        self.assertEqual(is_number.__module__, heads.__name__)

    def test_octets(self):
        for value in ([], (), [0], (255,), [0, 255, 7], tuple(range(256)), [9] * 30000):
            self.ask(is_octets, True, value)
        for value in ODD:
            self.ask(is_octets, type(value) in (list, tuple) and value in ([], (), [0], (0,)), value)
        for value in ([-1], [256], (0, 256), [0, True], (False,), [None], ["1"], [1.0], [[1]], "abc", b"abc", {1: 2}):
            self.ask(is_octets, False, value)

    def test_sign_of(self):
        for octet in range(256):
            self.assertEqual(sign_of(octet), chr(octet) if 32 <= octet <= 126 and octet != 37 else "")
        for octet in (-1, -224, 256, 1000):
            self.assertEqual(sign_of(octet), "")

    def test_is_signs(self):
        for value in ("", SIGNS, "a" * 5000, " ", "~", "\\"):
            self.ask(is_signs, True, value)
        for value in ("%", "a%b", "\n", "\t", "\r", "\x7f", "\x1f", "\u00e4", "a\u20ac", "\x00"):
            self.ask(is_signs, False, value)
        for value in ODD:
            self.ask(is_signs, isinstance(value, str), value)


class Methods(Case):
    def test_the_table(self):
        self.assertEqual(METHODS, (
            ("GET", False, True, True), ("HEAD", False, True, False), ("PUT", True, True, True),
            ("POST", True, False, True), ("DELETE", False, True, True),
        ))
        for method, body, repeatable, answered in METHODS:
            self.ask(is_method, True, method)
            self.ask(has_body, body, method)
            self.ask(is_repeatable, repeatable, method)
            self.ask(answers_have_body, answered, method)

    def test_anything_else(self):
        for value in ODD + ("get", "Get", "GET ", "PATCH", ("GET",), ["GET"], "GETS", "GE", b"GET"):
            self.ask(is_method, False, value)


class Words(Case):
    def test_sizes(self):
        for word in ("0", "1", "f", "a0", "fffff", "10000", "4e20", "4e21"):
            self.ask(is_size, True, word)
        for word in ("", "00", "01", "0a", "100000", "F", "g", " 1", "1 ", "-1", "+1", "1_0", "\u0661"):
            self.ask(is_size, False, word)

    def test_numbers_of_octets(self):
        for number in (0, 1, 9, 10, 19999, 20000):
            self.ask(is_number_of_octets, True, str(number))
        for word in ("", "00", "01", "20001", "99999", "020000", "a", "1a", " 1", "1 ", "-1", "+1", "1_0", "\u0661", "1.0"):
            self.ask(is_number_of_octets, False, word)


class Headers(Case):
    def test_names(self):
        for name in ("a", "-", "0", NAMES[:24], NAMES[13:], "host", "connection", "lengths", "transfers", "a" * 24):
            self.ask(is_name, True, name)
        for name in ("", "a" * 25, "length", "transfer", "Host", "a b", "a_b", "a.b", "a:", "\u00e4"):
            self.ask(is_name, False, name)
        for name in ODD:
            self.ask(is_name, name in ("x", "cut"), name)

    def test_values(self):
        for wide, most in ((False, 200), (True, 400)):
            for value in ("", "a", "a b", "a" * most, SIGNS[1:] * 2, "a" + " " * (most - 2) + "b", "#/:\\\""):
                self.ask(is_value, True, value, wide)
            for value in ("a" * (most + 1), " ", " a", "a ", "%", "a\n", "\t", "\u00e4", "a\rb"):
                self.ask(is_value, False, value, wide)
            for value in ODD:
                self.ask(is_value, isinstance(value, str), value, wide)

    def test_headers(self):
        for wide, most, long in ((False, 30, 200), (True, 70, 400)):
            for value in ((), PLAIN, some(most), (("connection", "a"),), (("x", "a" * long),), (HOST, HOST)):
                self.ask(is_headers, True, value, wide)
            for value in (some(most + 1), list(PLAIN), (("connection", "a"), HOST, ("connection", "a")), (["x", "y"],),
                          (("x",),), (("x", "y", "z"),), (("X", "y"),), (("x", " y"),), (("x", "a" * (long + 1)),),
                          (("length", "5"),), (HOST, None), ("xy",), (("x", None),), ((None, "x"),), ((("x", "y"),),)):
                self.ask(is_headers, False, value, wide)
            for value in ODD:
                self.ask(is_headers, value == () and type(value) is tuple, value, wide)

    def test_values_of(self):
        self.assertEqual(calm(self, values_of, PLAIN, "x"), ["1", "2"])
        self.assertEqual(calm(self, values_of, PLAIN, "accept"), [""])
        self.assertEqual(calm(self, values_of, PLAIN, "y"), [])
        self.assertEqual(values_of((), "x"), [])


class Targets(Case):
    def test_targets(self):
        for wide, most in ((False, 380), (True, 1900)):
            for value in ("/", "/a?b=c&d", "//", "/" + "a" * (most - 1), "/" + SIGNS.replace(" ", "").replace("#", ""), "/~2f\\"):
                self.ask(is_target, True, value, wide)
            for value in ("", "a", "a/", "/" + "a" * most, "/a b", " /", "/ ", "/a#b", "/%20", "/\n", "/\u00e4", ["/"], "?/"):
                self.ask(is_target, False, value, wide)
            for value in ODD:
                self.ask(is_target, False, value, wide)

    def test_hosts(self):
        for value in ("a", ".", "-", "a.b-c.9", "0" * 60, NAMES + "."):
            self.ask(is_host, True, value)
        for value in ("", "a" * 61, "A", "a:80", "a_b", "a b", "a/", "\u00e4", "a\n"):
            self.ask(is_host, False, value)
        for value in ODD:
            self.ask(is_host, value in ("x", "cut"), value)


class Requests(Case):
    def test_right_ones(self):
        for wide in (False, True):
            for method, body, _, _ in METHODS:
                self.ask(is_request, True, (method, "/", (HOST,), None), wide)
                for octets in ((), (0, 255), (7,) * 20000):
                    self.ask(is_request, body, (method, "/", (HOST,), octets), wide)

    def test_narrow_and_wide(self):
        for headers in (some(31, [HOST]), some(70, [HOST]), (HOST, ("x", "a" * 201)), (HOST, ("x", "a" * 400))):
            self.ask(is_request, False, ("GET", "/", headers, None), False)
            self.ask(is_request, True, ("GET", "/", headers, None), True)
        for length, wide in ((381, True), (1900, True), (1901, False)):
            value = ("GET", "/" + "a" * (length - 1), (HOST,), None)
            self.ask(is_request, False, value, False)
            self.ask(is_request, wide, value, True)
        self.ask(is_request, True, ("GET", "/" + "a" * 379, some(30, [HOST, ("x", "a" * 200)]), None), False)
        self.ask(is_request, False, ("GET", "/", some(71, [HOST]), None), True)

    def test_just_one_host(self):
        for wide in (False, True):
            for headers in ((), (("x", "y"),), (HOST, HOST), (("host", ""),), (("host", "A"),), (("host", "a" * 61),),
                            (HOST, ("x", "y"), ("host", "b"))):
                self.ask(is_request, False, ("GET", "/", headers, None), wide)
            self.ask(is_request, True, ("GET", "/", (("x", "y"), ("host", "a" * 60)), None), wide)

    def test_bodies(self):
        for body in ((0,) * 20001, [], [1], (256,), (True,), (None,), "", 0, False, ((),), (-1,), {}, (1.0,)):
            self.ask(is_request, False, ("PUT", "/", (HOST,), body), True)

    def test_anything_else(self):
        right = ("PUT", "/", (HOST,), (1, 2))
        for wide in (False, True):
            for value in ODD + (list(right), right[:3], right + (None,), (), (right,)):
                self.ask(is_request, False, value, wide)
            for at, fits in enumerate((("PUT", "POST"), (), (), ((), (0,), None))):
                for value in ODD:
                    due = value in fits and (value is None or type(value) is tuple)
                    self.ask(is_request, due, right[:at] + (value,) + right[at + 1:], wide)


class Answers(Case):
    def test_bodies_by_methods_and_statuses(self):
        for wide in (False, True):
            for method, _, _, answered in METHODS:
                for status in (200, 203, 204, 205, 303, 304, 305, 404, 599):
                    bodiless = status in (204, 304) or not answered
                    self.ask(is_answer, bodiless, (status, (), None), method, wide)
                    for octets in ((), (1, 2), (7,) * 20000):
                        self.ask(is_answer, not bodiless, (status, (), octets), method, wide)

    def test_statuses(self):
        for status in (199, 600, 0, -200, True, False, None, "200", 200.0, (200,), 2000):
            self.ask(is_answer, False, (status, (), ()), "GET", True)

    def test_headers(self):
        for headers, narrow, wide in (
            ((), True, True), (some(30), True, True), (some(31), False, True), (some(70), False, True), (some(71), False, False),
            ((("x", "a" * 200),), True, True), ((("x", "a" * 201),), False, True), ((("x", "a" * 401),), False, False),
            ((HOST,), False, False), ((("x", "y"), HOST), False, False), ((("connection", "a"),) * 2, False, False),
            ([], False, False),
        ):
            self.ask(is_answer, narrow, (200, headers, ()), "GET", False)
            self.ask(is_answer, wide, (200, headers, ()), "GET", True)

    def test_wrong_bodies(self):
        for body in ((0,) * 20001, [], [1], (256,), (True,), (None,), "", 0, False, ((),), {}):
            self.ask(is_answer, False, (200, (), body), "GET", True)
            self.ask(is_answer, False, (204, (), body), "GET", True)

    def test_anything_else(self):
        right = (200, (), (1, 2))
        for wide in (False, True):
            for value in ODD + (list(right), right[:2], right + (None,), (right,)):
                self.ask(is_answer, False, value, "GET", wide)
                self.ask(is_answer, False, right, value, wide)
            for method in ("get", "PATCH", ("GET",), ["GET"]):
                self.ask(is_answer, False, right, method, wide)
                self.ask(is_answer, False, (204, (), None), method, wide)


if __name__ == "__main__":
    unittest.main()
