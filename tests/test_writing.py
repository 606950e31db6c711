"""Points 505 and 507: written texts."""

import unittest

from onepolicy.errors import Refused, Unfit
from onepolicy.heads import METHODS
from onepolicy.writing import write_answer, write_request
from samples import calm
from table_samples import ODD

HOST = ("host", "a.example")


def octets(text):
    return list(text.replace("\n", "\r\n").encode("ascii"))


class Case(unittest.TestCase):
    def unfit(self, function, *given):
        with self.assertRaises(Unfit) as caught:
            calm(self, function, *given)
        self.assertIsInstance(caught.exception, Refused)


class Requests(Case):
    def check(self, request, text, body=()):
        found = calm(self, write_request, request)
        self.assertEqual(found, octets(text) + list(body))
        self.assertIs(type(found), list)

    def test_without_a_body(self):
        for method, _, _, _ in METHODS:
            self.check((method, "/a?b", (HOST,), None), method + " /a?b E/1\nhost: a.example\n\n")

    def test_with_a_body(self):
        for method in ("PUT", "POST"):
            for body in ((), (0, 13, 10, 255), (7,) * 20000):
                text = method + " / E/1\nhost: a.example\nlength: " + str(len(body)) + "\n\n"
                self.check((method, "/", (HOST,), body), text, body)

    def test_headers_in_their_order(self):
        headers = (("b", ""), ("a", "x  y: z"), HOST, ("b", "2"), ("connection", "a, b"))
        self.check(("GET", "/", headers, None), "GET / E/1\nb: \na: x  y: z\nhost: a.example\nb: 2\nconnection: a, b\n\n")
        self.check(("PUT", "/", headers, (5,)),
                   "PUT / E/1\nb: \na: x  y: z\nhost: a.example\nb: 2\nconnection: a, b\nlength: 1\n\n", (5,))

    def test_wide_ones(self):
        target, headers = "/" + "a" * 1899, (HOST,) + (("x", "y" * 400),) * 69
        lines = "".join("x: " + "y" * 400 + "\n" for _ in range(69))
        self.check(("GET", target, headers, None), "GET " + target + " E/1\nhost: a.example\n" + lines + "\n")

    def test_anything_else(self):
        right = ("PUT", "/", (HOST,), (1,))
        for value in ODD + (list(right), right[:3], right + (1,)):
            self.unfit(write_request, value)
        for at in range(4):
            for value in ("get", "/" + "a" * 1900, (HOST,) * 2, (), (("x", "y"),), (HOST,) + (("x", "y"),) * 70, (7,) * 20001,
                          (HOST, ("x", "y" * 401)), [1], True, 5):
                if (at, value) != (3, ()):
                    self.unfit(write_request, right[:at] + (value,) + right[at + 1:])
        self.unfit(write_request, ("GET", "/", (HOST,), ()))
        self.unfit(write_request, ("DELETE", "/", (HOST,), (1,)))


class Answers(Case):
    def check(self, answer, method, text, body=()):
        found = calm(self, write_answer, answer, method)
        self.assertEqual(found, octets(text) + list(body))
        self.assertIs(type(found), list)

    def test_to_each_method(self):
        for method, _, _, answered in METHODS:
            for status in (200, 404, 599):
                if answered:
                    for body in ((), (1, 2, 255), (7,) * 20000):
                        text = "E/1 " + str(status) + "\nx: y\nlength: " + str(len(body)) + "\n\n"
                        self.check((status, (("x", "y"),), body), method, text, body)
                        self.unfit(write_answer, (status, (("x", "y"),), None), method)
                else:
                    self.check((status, (("x", "y"),), None), method, "E/1 " + str(status) + "\nx: y\n\n")
                    self.unfit(write_answer, (status, (("x", "y"),), ()), method)
            for status in (204, 304):
                self.check((status, (), None), method, "E/1 " + str(status) + "\n\n")
                self.unfit(write_answer, (status, (), ()), method)

    def test_wide_ones(self):
        lines = "".join("x: " + "y" * 400 + "\n" for _ in range(70))
        self.check((200, (("x", "y" * 400),) * 70, ()), "GET", "E/1 200\n" + lines + "length: 0\n\n")

    def test_anything_else(self):
        right = (200, (("x", "y"),), (1,))
        for value in ODD + (list(right), right[:2], right + (1,)):
            self.unfit(write_answer, value, "GET")
            self.unfit(write_answer, right, value)
            self.unfit(write_answer, value, value)
        for at in range(3):
            for value in (199, 600, True, (HOST,), (("x", "y"),) * 71, (7,) * 20001, (("x", "y" * 401),), [1], "200"):
                self.unfit(write_answer, right[:at] + (value,) + right[at + 1:], "GET")
        for method in ("get", "PATCH", "", ("GET",)):
            self.unfit(write_answer, right, method)


class Fresh(unittest.TestCase):
    def test_nothing_is_shared(self):
        request = ("PUT", "/", (HOST,), (1, 2))
        write_request(request).clear()
        self.assertEqual(write_request(request)[-2:], [1, 2])


if __name__ == "__main__":
    unittest.main()
