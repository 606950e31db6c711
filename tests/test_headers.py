"""Points 532, 533, 535, 561 and 563: header rows, trusted addresses, and the headers that go inside and outside."""

import unittest

from onepolicy.headers import fault_headers, fault_trusted, inside_headers, is_trusted, outside_headers
from samples import calm, put
from table_samples import ODD

MOST = 2 ** 32 - 1
CLIENT = 0x01020304

HIDE, SET, FROM = ("hide", "request", "a"), ("set", "request", "b", "v"), ("from", "c")


def sets(many, side="request"):
    return tuple(("set", side, "s" + str(at), "v") for at in range(many))


def hides(many):
    return tuple(("hide", "answer", "h" + str(at)) for at in range(many))


class Faults(unittest.TestCase):
    def check(self, rows, due):
        self.assertEqual(calm(self, fault_headers, {"headers": rows}), due, rows)

    def one(self, row, due):
        self.check((row,), due and (due, 0))
        self.check((("hide", "answer", "zz"), row), due and (due, 1))
        if due == "header":
            self.check((row, SET, FROM), (due, 0))

    def test_right_ones(self):
        self.check((), None)
        for row in (HIDE, SET, FROM, ("hide", "answer", "x-1"), ("set", "answer", "a" * 24, ""),
                    ("set", "request", "-", "a" * 200), ("from", "0")):
            self.one(row, None)
        self.check((HIDE, SET, FROM), None)
        self.check(hides(30), None)

    def test_no_tuple_of_a_length_that_can_be(self):
        for value in ODD + ([HIDE], {0: HIDE}, "rows", hides(31), (None,) * 31):
            if value not in ((), (0,), ((0, 1),)):
                self.check(value, ("header", None))

    def test_rows_that_are_none(self):
        for value in ODD + (list(HIDE), HIDE[:2], HIDE + ("v",), SET[:3], SET + ("v",), FROM + ("v",), ("from",), ("hide",),
                            ("show", "request", "a"), ("Hide", "request", "a"), (["hide"], "request", "a"),
                            ((), "request", "a"), (None, "request", "a"), ("from", "request", "a"), ("set", "b", "v"), ("show",), ("x", "request", "a")):
            self.one(value, "header")
        for row, at in ((HIDE, 1), (SET, 1)):
            for side in ("requests", "", None, "in", ("request",), ["answer"]):
                self.one(put(row, (at,), side), "header")
        for row, at in ((HIDE, 2), (SET, 2), (FROM, 1)):
            for name in ("", "A", "a" * 25, "a b", "a_", "length", "transfer", "host", "connection", "request", None, 5, ("a",)):
                self.one(put(row, (at,), name), "header")
        for value in (" a", "a ", "a" * 201, "%", "\n", None, 5, ("v",)):
            self.one(put(SET, (3,), value), "header")

    def test_one_too_many_of_a_kind(self):
        self.check(sets(10), None)
        self.check(sets(5) + sets(5, "answer"), None)
        self.check(sets(11), ("header", 10))
        self.check(sets(5) + (HIDE,) + sets(6, "answer"), ("header", 11))
        froms = tuple(("from", "f" + str(at)) for at in range(5))
        self.check(froms[:4] + sets(10) + hides(16), None)
        self.check(froms, ("header", 4))
        self.check(sets(10) + froms + (("set", "answer", "x", "v"),), ("header", 14))

    def test_same_header(self):
        self.check((HIDE, HIDE), ("same header", 1))
        self.check((("hide", "request", "a"), ("set", "answer", "a", "v"), ("set", "request", "a", "v")), ("same header", 2))
        self.check((("hide", "request", "c"), FROM), ("same header", 1))
        self.check((FROM, ("set", "request", "c", "v")), ("same header", 1))
        self.check((FROM, ("set", "answer", "c", "v"), ("hide", "answer", "d")), None)
        self.check((FROM, FROM), ("same header", 1))

    def test_words_in_their_order(self):
        self.check((HIDE, HIDE, None), ("header", 2))
        self.check(sets(10) + (("set", "request", "s0", "v"),), ("header", 10))


class Trusted(unittest.TestCase):
    def check(self, rows, due):
        self.assertEqual(calm(self, fault_trusted, {"trusted": rows}), due, rows)

    def test_right_ones(self):
        for rows in ((), ((0, 0),), ((0, MOST),), ((5, 6), (7, 7), (9, MOST)), tuple((at, at) for at in range(20))):
            self.check(rows, None)

    def test_no_tuple_of_a_length_that_can_be(self):
        for value in ODD + ([(1, 2)], {0: (1, 2)}, tuple((at, at) for at in range(21))):
            if value not in ((), (0,), ((0, 1),)):
                self.check(value, ("trusted", None))

    def test_rows(self):
        for row in (None, (), (1,), (1, 2, 3), [1, 2], (2, 1), (-1, 2), (0, MOST + 1), (True, 5), (0, True), ("1", 2), (1, None),
                    (1.0, 2), 5):
            self.check((row,), ("trusted", 0))
            self.check(((0, 0), row), ("trusted", 1))

    def test_order(self):
        self.check(((5, 8), (8, 9)), ("trusted", 1))
        self.check(((5, 8), (1, 2)), ("trusted", 1))
        self.check(((5, 8), (9, 9), (9, 10)), ("trusted", 2))
        self.check(((5, 8), (5, 8)), ("trusted", 1))

    def test_is_trusted(self):
        rows = ((5, 8), (10, 10), (20, MOST))
        for address in (0, 4, 9, 11, 19):
            self.assertIs(is_trusted(rows, address), False)
        for address in (5, 6, 8, 10, 20, MOST):
            self.assertIs(is_trusted(rows, address), True)
        self.assertIs(is_trusted((), 5), False)


class Inside(unittest.TestCase):
    def check(self, rows, given, due, trusted=(), name=(7, 0)):
        found = calm(self, inside_headers, tuple(rows), tuple(trusted), CLIENT, name, tuple(given))
        self.assertEqual(found, tuple(due) + (("request", f"{name[0]}.{name[1]}"),))
        self.assertIsInstance(found, tuple)

    def test_without_rows(self):
        given = (("b", "1"), ("host", "h"), ("a", ""), ("b", "2"))
        self.check((), given, given)
        self.check((), (), ())
        self.check((), given, given, name=(999999999, 12))

    def test_own_names(self):
        self.check((), (("connection", ""), ("a", "1"), ("request", "7.0"), ("request", "x")), (("a", "1"),))

    def test_what_a_connection_names(self):
        for value in ("a,b", "a, B", " a  ,,b ".strip(), "A b", "host,a ,b", "b a host connection request"):
            given = (("a", "1"), ("connection", value), ("b", "2"), ("host", "h"), ("c", "3"), ("a", "4"))
            self.check((), given, (("host", "h"), ("c", "3")))
        self.check((), (("connection", "aa;b"), ("a", "1"), ("b", "2")), (("a", "1"), ("b", "2")))

    def test_rows_of_both_sides(self):
        given = (("a", "1"), ("b", "2"), ("c", "3"), ("d", "4"), ("host", "h"))
        self.check((("hide", "request", "a"), ("hide", "answer", "b")), given, given[1:])
        self.check((("set", "request", "b", "x"), ("set", "answer", "q", "y"), ("set", "request", "e", "")), given,
                   (given[0],) + given[2:] + (("b", "x"), ("e", "")))

    def test_from(self):
        text, given = "1.2.3.4", (("c", "one"), ("host", "h"), ("c", "two"))
        self.check((FROM,), given, (("host", "h"), ("c", text)))
        self.check((FROM,), given, (("host", "h"), ("c", "one, " + text)), trusted=((CLIENT, CLIENT),))
        self.check((FROM,), given[1:2], (("host", "h"), ("c", text)), trusted=((0, MOST),))
        self.check((FROM,), (("c", ""),), (("c", ", " + text),), trusted=((0, MOST),))
        # What a connection names does not go on as it came, but it came.
        self.check((FROM,), given + (("connection", "c"),), (("host", "h"), ("c", "one, " + text)), trusted=((0, MOST),))

    def test_sets_stand_ahead_of_froms(self):
        rows = (("from", "z"), SET, ("from", "y"), ("hide", "request", "a"), ("set", "request", "w", "u"))
        self.check(rows, (("a", "1"), ("k", "1")), (("k", "1"), ("b", "v"), ("w", "u"), ("z", "1.2.3.4"), ("y", "1.2.3.4")))


class Outside(unittest.TestCase):
    def test_rows(self):
        given = (("a", "1"), ("connection", "C, x"), ("b", "2"), ("c", "3"), ("request", "r"), ("b", "4"))
        rows = (("hide", "answer", "a"), ("hide", "request", "b"), ("set", "answer", "n", "5"), ("set", "request", "m", "6"),
                ("from", "request-from"), ("set", "answer", "k", ""))
        due = (("b", "2"), ("request", "r"), ("b", "4"), ("n", "5"), ("k", ""))
        self.assertEqual(calm(self, outside_headers, rows, given), due)
        self.assertEqual(calm(self, outside_headers, (), given), (given[0],) + given[2:3] + given[4:])
        self.assertEqual(calm(self, outside_headers, (("set", "answer", "b", "x"),), given),
                         (given[0], ("request", "r"), ("b", "x")))
        self.assertEqual(outside_headers((("from", "a"),), given[:1]), given[:1])


if __name__ == "__main__":
    unittest.main()
