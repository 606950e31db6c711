"""Points 505, 506 and 508 to 510: readers, the values that they tell, and each fault with its word and its place."""

import unittest

from onepolicy.errors import Unfit
from onepolicy.heads import METHODS
from onepolicy.reading import Reader
from edge_samples import answer, request, text
from samples import calm
from table_samples import ODD

HOST = ("host", "a.example")


def octets(line):
    """Return the octets of a string, with CR and LF for each line feed."""
    return list(line.replace("\n", "\r\n").encode("latin-1"))


def raw(line):
    return list(line.encode("latin-1"))


class Case(unittest.TestCase):
    def told(self, row, method=None, wide=False):
        """Return what is told of a row of octets, however it is cut: all at once, octet by octet, in pieces of 7."""
        reader = Reader(method, wide)
        found = calm(self, reader.feed, row)
        for size in (1, 7):
            other, told = Reader(method, wide), []
            for at in range(0, len(row), size):
                told += other.feed(row[at:at + size])
            self.assertEqual(told, found)
            self.assertEqual((other.place(), other.is_between()), (reader.place(), reader.is_between()))
        fault = found and found[-1][0] == "fault"
        self.assertEqual(reader.place(), found[-1][2] + 1 if fault else len(row))
        if fault:
            self.assertFalse(reader.is_between())
            self.assertEqual((reader.feed([1]), reader.feed([]), reader.place()), ([], [], found[-1][2] + 1))
        return found

    def values(self, row, due, **kinds):
        """Look for these values, each with the place of its last octet."""
        self.assertEqual(self.told(row, **kinds), [("value", value, place) for value, place in due])

    def fault(self, row, word, place=None, **kinds):
        """Look for one fault, at the last octet unless it is told otherwise."""
        place = len(row) - 1 if place is None else place
        self.assertEqual(self.told(row, **kinds), [("fault", word, place)])
        # The octets ahead of it bring nothing.
        self.assertEqual(self.told(row[:place], **kinds), [])

    def head_fault(self, ahead, sign, word, **kinds):
        """Look for a fault at one octet behind a request's line and some text."""
        first = "GET / E/1\n" if "method" not in kinds else "E/1 200\n"
        self.fault(octets(kinds.pop("first", first) + ahead) + [sign if isinstance(sign, int) else ord(sign)], word, **kinds)


class Values(Case):
    def test_requests(self):
        for method, has_body, _, _ in METHODS:
            row = text(method + " /a/b?c E/1", (("x", "1"), HOST, ("x", "")))
            due = request(method, "/a/b?c", (("x", "1"), HOST, ("x", "")))
            self.values(row, [(due, len(row) - 1)])
            if has_body:
                for body in ((), (0,), (13, 10, 13, 10, 255), tuple(range(256))):
                    row = text(method + " / E/1", (HOST,), body=body)
                    self.values(row, [(request(method, body=body), len(row) - 1)])

    def test_none_and_an_empty_body_are_two_things(self):
        for line, body in (("", None), ("length: 0\n", ()), ("transfer: pieces\n", ())):
            row = octets("PUT / E/1\nhost: a.example\n" + line + "\n" + ("0\n\n" if "pieces" in line else ""))
            self.values(row, [(request("PUT", body=body), len(row) - 1)])

    def test_answers(self):
        for method, _, _, has_body in METHODS:
            for status in (200, 204, 304, 404, 599):
                some = has_body and status not in (204, 304)
                body = (1, 2, 3) if some else None
                row = text("E/1 " + str(status), (("a", "b"),), body=body)
                self.values(row, [(answer(status, (("a", "b"),), body), len(row) - 1)], method=method)
                if some:
                    row = text("E/1 " + str(status), (), pieces=((9,) * 17, (8,)))
                    self.values(row, [(answer(status, (), (9,) * 17 + (8,)), len(row) - 1)], method=method)

    def test_pieces(self):
        for pieces in ((), ((1,),), ((1, 2), (3,)), ((7,) * 255, (13, 10) * 8, (0,)), ((5,) * 4096,)):
            row = text("POST / E/1", (HOST,), pieces=pieces)
            body = tuple(octet for piece in pieces for octet in piece)
            self.values(row, [(request("POST", body=body), len(row) - 1)])
        for size in (9, 10, 15, 16, 0xabcd // 4, 20000):
            row = text("POST / E/1", (HOST,), pieces=((4,) * size,))
            self.values(row, [(request("POST", body=(4,) * size), len(row) - 1)])

    def test_one_behind_the_other(self):
        rows = [text("GET / E/1"), text("PUT /x E/1", body=(1, 2)), text("POST / E/1", pieces=((3,),)), text("HEAD / E/1")]
        due = [request(), request("PUT", "/x", body=(1, 2)), request("POST", body=(3,)), request("HEAD")]
        ends = [sum(len(row) for row in rows[:at + 1]) - 1 for at in range(4)]
        self.values(sum(rows, []), list(zip(due, ends)))
        reader = Reader()
        for row, value, end in zip(rows, due, ends):
            self.assertTrue(reader.is_between())
            for octet in row[:-1]:
                self.assertEqual(reader.feed([octet]), [])
                self.assertFalse(reader.is_between())
            self.assertEqual(reader.feed(row[-1:]), [("value", value, end)])
            self.assertEqual(reader.place(), end + 1)

    def test_values_ahead_of_a_fault(self):
        row = text("GET / E/1")
        self.assertEqual(self.told(row + row + raw("GOT")), [
            ("value", request(), len(row) - 1), ("value", request(), 2 * len(row) - 1), ("fault", "method", 2 * len(row) + 1),
        ])

    def test_where_the_length_stands(self):
        for line in ("length: 2\nhost: a.example\nb: c\n", "host: a.example\nlength: 2\nb: c\n", "host: a.example\nb: c\nLENGTH: 2\n"):
            row = octets("PUT / E/1\n" + line + "\n") + [7, 8]
            self.values(row, [(request("PUT", headers=(HOST, ("b", "c")), body=(7, 8)), len(row) - 1)])
        row = octets("PUT / E/1\nTransfer: pieces\nhost: a.example\n\n1\n") + [7] + octets("\n0\n\n")
        self.values(row, [(request("PUT", body=(7,)), len(row) - 1)])

    def test_great_letters(self):
        row = octets("GET / E/1\nHoSt: a.example\nX-Y9: ABC dEf\nCONNECTION: A\n\n")
        due = request(headers=(HOST, ("x-y9", "ABC dEf"), ("connection", "A")))
        self.values(row, [(due, len(row) - 1)])

    def test_signs_of_values(self):
        for value in ("", "a", "a  b", ": :", "\"\\~", "a" * 200, "a" * 198 + " b", "!" + "".join(
                chr(number) for number in range(32, 127) if number != 37) + "!"):
            row = text("GET / E/1", (HOST, ("v", value)))
            self.values(row, [(request(headers=(HOST, ("v", value))), len(row) - 1)])

    def test_bounds_of_a_narrow_one(self):
        row = text("GET /" + "a" * 379 + " E/1", (HOST, ("n" * 24, "v" * 200)))
        self.values(row, [(request("GET", "/" + "a" * 379, (HOST, ("n" * 24, "v" * 200))), len(row) - 1)])
        headers = (HOST,) + tuple(("a", str(at)) for at in range(29))
        row = text("PUT / E/1", headers, body=(6,))
        self.values(row, [(request("PUT", headers=headers, body=(6,)), len(row) - 1)])
        row = text("PUT / E/1", headers, pieces=((6,),))
        self.values(row, [(request("PUT", headers=headers, body=(6,)), len(row) - 1)])

    def test_bounds_of_a_wide_one(self):
        headers = (HOST,) + tuple(("n" * 24, "v" * 400) for _ in range(69))
        row = text("PUT /" + "a" * 1899 + " E/1", headers, body=(1,))
        self.values(row, [(request("PUT", "/" + "a" * 1899, headers, (1,)), len(row) - 1)], wide=True)
        headers = tuple(("n" * 24, "v" * 400) for _ in range(70))
        row = text("E/1 200", headers, pieces=((1,),))
        self.values(row, [(answer(200, headers, (1,)), len(row) - 1)], method="GET", wide=True)

    def test_great_bodies(self):
        body = tuple(at // 100 for at in range(20000))
        row = text("PUT / E/1", body=body)
        self.values(row, [(request("PUT", body=body), len(row) - 1)])
        row = text("PUT / E/1", pieces=(body[:1], body[1:19999], body[19999:]))
        self.values(row, [(request("PUT", body=body), len(row) - 1)])


class FirstLines(Case):
    def test_method(self):
        for line in ("g", "A", " ", "\r", "\n", "\x00", "\xff", "%", "GA", "GE ", "GET\r", "GETS", "PUS", "PO ", "HEADS", "DELET ",
                     "POST/", "PATCH", "GET\n"):
            place = 1 if line == "PATCH" else None
            self.fault(raw(line), "method", place)

    def test_target(self):
        for line in ("GET  ", "GET a", "GET \r", "GET #", "GET \xe4", "GET /\r", "GET /a#", "GET /%", "GET /\x7f", "GET /\n",
                     "GET /" + "a" * 380):
            self.fault(raw(line), "target")
        self.fault(raw("GET /" + "a" * 1900), "target", wide=True)
        self.assertEqual(self.told(raw("GET /" + "a" * 379 + " ")), [])
        self.assertEqual(self.told(raw("GET /" + "a" * 1899 + " "), wide=True), [])

    def test_version(self):
        for line in ("F", " ", "e", "\r", "E/2", "E ", "E//", "E/1 ", "E/1\n", "E/1a", "E/11", "E/1\x00", "\n"):
            self.fault(raw("GET / " + line), "version")
        for line in ("F", " ", "\r", "\n", "GET", "E/2", "E/1\r", "E/1a", "E/1\n", "E/1 2000", "E/1 200 ", "E/1 200\n", "E/1 404\x00"):
            self.fault(raw(line), "version", 0 if line == "GET" else None, method="GET")

    def test_status(self):
        for line in ("1", "6", "0", " ", "a", "\r", "2a", "2 ", "20\r", "20 ", "59\n", "2\x00", "3/", "3:"):
            self.fault(raw("E/1 " + line), "status", method="GET")
        for status in (200, 299, 500, 599):
            self.assertEqual(self.told(raw("E/1 " + str(status) + "\r"), method="PUT"), [])

    def test_control_behind_a_first_line(self):
        for sign in (13, 32, 0, 65, 255):
            self.fault(raw("GET / E/1\r") + [sign], "control")
            self.fault(raw("E/1 200\r") + [sign], "control", method="GET")


class Headers(Case):
    def test_name(self):
        for sign in " \n\x00\xff%:_/\x7f(":
            self.head_fault("", sign, "name")
            if sign != ":":
                self.head_fault("ab", sign, "name")
                self.head_fault("a: b\nA9-", sign, "name")
        self.head_fault("ab", "\r", "name")
        for sign in "a-9Z\r":
            self.head_fault("a" * 24, sign, "name")
        self.assertEqual(self.told(octets("GET / E/1\n" + "a" * 24 + ":")), [])

    def test_blank(self):
        for sign in "a:\r\n\x00\xff%":
            self.head_fault("a:", sign, "blank")
            self.head_fault("length:", sign, "blank", first="PUT / E/1\n")

    def test_value(self):
        self.head_fault("a: ", " ", "value")
        self.head_fault("a: b ", "\r", "value")
        self.head_fault("a: b  ", "\r", "value")
        for wide, most in ((False, 200), (True, 400)):
            for sign in "a ":
                self.head_fault("a: " + "b" * most, sign, "value", wide=wide)
            self.head_fault("a: " + "b" * (most - 1), " ", "value", wide=wide)
            self.assertEqual(self.told(octets("GET / E/1\na: " + "b" * most) + [13], wide=wide), [])
            self.assertEqual(self.told(octets("GET / E/1\na: " + "b" * (most - 2) + " a"), wide=wide), [])
        self.head_fault("length: ", " ", "value", first="PUT / E/1\n")
        self.head_fault("transfer: ", " ", "value", first="PUT / E/1\n")

    def test_control(self):
        for sign in "\n\x00\x1f\x7f\x80\xff%\t":
            for ahead in ("a: ", "a: b", "a: b ", "length: ", "length: 1", "transfer: piec"):
                self.head_fault(ahead, sign, "control", first="PUT / E/1\n")
        for sign in "\r a\x00":
            for ahead in ("a: b\r", "\r", "a: \r", "a: b\r\n\r"):
                self.head_fault(ahead.replace("\r\n", "\n"), sign, "control")
                self.head_fault(ahead.replace("\r\n", "\n"), sign, "control", method="GET")

    def test_twice(self):
        for name, value in (("host", "a"), ("connection", "a"), ("length", "5"), ("transfer", "pieces")):
            for other in (name, name.upper()):
                self.head_fault(name + ": " + value + "\nb: c\n" + other, ":", "twice", first="PUT / E/1\n")
        self.head_fault("connection: \nconnection", ":", "twice", method="GET")
        # Other names may stand twice.
        self.assertEqual(self.told(octets("GET / E/1\na: b\na: b\nhosts: a\nhosts: b\n")), [])

    def test_both(self):
        self.head_fault("length: 5\ntransfer", ":", "both", first="PUT / E/1\n")
        self.head_fault("transfer: pieces\na: b\nLength", ":", "both", method="GET")

    def test_host_of_an_answer(self):
        self.head_fault("host", ":", "host", method="GET")
        self.head_fault("a: b\nHOST", ":", "host", method="HEAD")

    def test_body(self):
        for method, has_body, _, answered in METHODS:
            for name in ("length", "transfer"):
                if not has_body:
                    self.head_fault(name, ":", "body", first=method + " / E/1\n")
                for status in ("204", "304", "200"):
                    if status != "200" or not answered:
                        row = octets("E/1 " + status + "\n" + name + ":")
                        self.fault(row, "body", method=method)

    def test_length(self):
        for value in ("a", "-", "01", "00", "1 ", "1a", "20001", "30000", "20010", "200000", "99999", "123456"):
            self.head_fault("length: " + value[:-1], value[-1], "length", first="PUT / E/1\n")
        self.head_fault("length: ", "\r", "length", first="PUT / E/1\n")
        for value in ("0", "9", "10", "20000", "19999", "2000"):
            self.assertEqual(self.told(octets("PUT / E/1\nlength: " + value) + [13]), [])

    def test_transfer(self):
        for value in ("P", "pieces ", "piecesx", "pi e"[:3], "x"):
            self.head_fault("transfer: " + value[:-1], value[-1], "transfer", first="PUT / E/1\n")
        for value in ("", "p", "piece"):
            self.head_fault("transfer: " + value, "\r", "transfer", first="PUT / E/1\n")

    def test_many(self):
        for wide, most in ((False, 30), (True, 70)):
            ahead = "a: b\n" * most
            for sign in "akmZ9-":
                self.head_fault(ahead, sign, "many", first="PUT / E/1\n", wide=wide)
            for start in ("lea", "la", "lengthe", "len:", "l:", "tb", "transfers", "transfe:", "LENX"):
                self.head_fault(ahead + start[:-1], start[-1], "many", first="PUT / E/1\n", wide=wide)
            # Where no body can be, or one is told, nothing can stand here any more.
            for start in "lt":
                self.head_fault(ahead, start, "many", wide=wide)
                self.head_fault("length: 5\n" + ahead, start, "many", first="PUT / E/1\n", wide=wide)
                self.head_fault(ahead + "transfer: pieces\n", start, "many", method="GET", wide=wide)
                self.head_fault(ahead, start, "many", method="HEAD", wide=wide)
            for start in ("length: 5\n", "Transfer: pieces\n", "\n"):
                row = octets("PUT / E/1\nhost: a\n" + "a: b\n" * (most - 1) + start)
                self.assertEqual([found[0] for found in self.told(row, wide=wide)], ["value"] * (start == "\n"))
            # A wrong sign of a name is told ahead of it.
            self.head_fault(ahead, "_", "name", first="PUT / E/1\n", wide=wide)
            self.head_fault(ahead + "len", "\r", "name", first="PUT / E/1\n", wide=wide)

    def test_the_host_at_the_end_of_a_head(self):
        for line in ("", "a: b\n", "hosts: a\n", "host: \n", "host: A\n", "host: a b\n", "host: a_b\n", "host: " + "a" * 61 + "\n",
                     "host: a:80\n", "host: *\n"):
            self.fault(octets("GET / E/1\n" + line + "\n"), "host")
        # It is behind all others, and nothing is told of the body.
        self.fault(octets("PUT / E/1\nlength: 5\n\n"), "host")
        for value in ("a", "A".lower() + "-.9", "a" * 60):
            row = octets("GET / E/1\nhost: " + value + "\n\n")
            self.values(row, [(request(headers=(("host", value),)), len(row) - 1)])

    def test_empty(self):
        for method, _, _, answered in METHODS:
            for status in (200, 204, 304, 500):
                row = octets("E/1 " + str(status) + "\na: b\n\n")
                if answered and status in (200, 500):
                    self.fault(row, "empty", method=method)
                else:
                    self.values(row, [(answer(status, (("a", "b"),), None), len(row) - 1)], method=method)

    def test_control_at_the_end_of_a_head_is_told_ahead(self):
        self.fault(octets("GET / E/1\n") + [13, 13], "control")
        self.fault(octets("E/1 200\n") + [13, 65], "control", method="GET")


class LongHeads(Case):
    """A head of 2000 octets is read by a narrow reader; where one more would be needed, "head" is told."""

    def ahead(self, many, first="PUT / E/1\n"):
        """Return the octets of a head without an end, so many of them."""
        row = octets(first)
        while many - len(row) > 210:
            row += octets("a: " + "b" * 195 + "\n")
        rest = many - len(row)
        if rest > 205:
            row += octets("a: " + "b" * 95 + "\n")
            rest = many - len(row)
        return row + octets("a: " + "b" * (rest - 5) + "\n")

    def bound(self, rest, line, at=None, method=None, first="PUT / E/1\n"):
        """Look at a line whose octets leave at least a rest behind them; with one more the fault is at a sign of it."""
        line = octets(line)
        row = self.ahead(2000 - rest - len(line), first)
        self.assertEqual(self.told(row + line, method=method), [])
        row = self.ahead(2001 - rest - len(line), first)
        at = len(line) - 1 if at is None else at
        self.assertEqual(self.told(row + line, method=method), [("fault", "head", len(row) + at)])
        self.assertEqual(self.told((row + line)[:len(row) + at], method=method), [])
        self.assertEqual(self.told(row + line, method=method, wide=True), [])

    def test_just_2000(self):
        row = self.ahead(1998 - 9) + octets("host: a\n\n")
        self.assertEqual(len(row), 2000)
        self.assertEqual([found[0] for found in self.told(row)], ["value"])
        row = self.ahead(1999 - 9) + octets("host: a\n\n")
        self.fault(row, "head", len(row) - 5)

    def test_rests_of_names(self):
        for name in ("a", "hos", "host", "connection", "lengt", "transfe", "a" * 23, "a" * 24, "Z"):
            self.bound(6, name)
        for name in ("length", "transfer", "LENGTH"):
            self.bound(7, name)
            self.bound(6, name + "s", len(name) - 1)
        self.bound(7, "host", method="GET", first="E/1 200\n")
        self.bound(6, "hosts", 3, method="GET", first="E/1 200\n")
        self.bound(6, "connection", method="GET", first="E/1 200\n")
        self.bound(7, "connection", first="PUT / E/1\nconnection: a\n")
        self.bound(7, "host", first="PUT / E/1\nhost: a\n")
        self.bound(7, "length", first="PUT / E/1\ntransfer: pieces\n")
        self.bound(7, "transfer", first="GET / E/1\n")

    def test_rests_behind_names(self):
        self.bound(5, "a:", 0)
        self.bound(5, "host:", 3)
        self.bound(4, "a: ", 0)
        self.bound(4, "host: ", 3)
        self.bound(4, "a: b")
        self.bound(4, "a: " + "b" * 100)
        self.bound(5, "a: b ")
        self.bound(6, "length:", 5)
        self.bound(5, "length: ", 5)
        self.bound(4, "length: 1", 5)
        self.bound(4, "length: 12")
        self.bound(11, "transfer:")
        self.bound(10, "transfer: ", 8)
        self.bound(9, "transfer: p", 8)
        self.bound(4, "transfer: pieces", 8)

    def test_a_host_that_is_refused_later_can_end_a_head(self):
        row = self.ahead(1990) + octets("host: \n\n")
        self.assertEqual(len(row), 2000)
        self.fault(row, "host")

    def test_rests_of_lines(self):
        row = self.ahead(1998)
        self.assertEqual(self.told(row), [])
        self.assertEqual(self.told(row + [13]), [])
        self.fault(row + [13, 10], "host")
        self.fault(row + [65], "head")
        # Where a line would end too late, its value is told ahead of the line's end.
        row = self.ahead(1999)
        self.fault(row[:-1], "head", len(row) - 3)

    def test_many_headers_leave_longer_rests(self):
        def row(many, name):
            found = octets("PUT / E/1\n" + "a: b\n" * 18)
            for left in range(12, 0, -1):
                found += octets("a: " + "b" * ((many - len(found) - len(name)) // left - 5) + "\n")
            return found + raw(name)
        for name, rest in (("l", 12), ("leng", 9), ("length", 7), ("t", 19), ("transfe", 13), ("transfer", 12)):
            self.assertEqual(self.told(row(2000 - rest, name)), [])
            self.assertEqual(len(row(2000 - rest, name)), 2000 - rest)
            found = row(2001 - rest, name)
            self.fault(found, "head", 2001 - rest - len(name))
        row = row(2000 - 12, "l") + octets("ength: 0\n\n")
        self.assertEqual(len(row), 2000)
        self.fault(row, "host")

    def test_the_first_fault_of_several(self):
        row = self.ahead(1992) + octets("a: b")
        self.fault(row + [32], "head")
        self.fault(row + [0], "control")
        row = self.ahead(1995)
        self.fault(row + [97], "head")
        self.fault(row + [0], "name")

    def test_a_wide_one_has_no_bound(self):
        row = text("GET / E/1", (HOST,) + (("a", "b" * 300),) * 20)
        self.values(row, [(request(headers=(HOST,) + (("a", "b" * 300),) * 20), len(row) - 1)], wide=True)


class Pieces(Case):
    START = "POST / E/1\nhost: a.example\ntransfer: pieces\n\n"

    def piece_fault(self, ahead, sign, word):
        self.fault(octets(self.START) + ahead + [sign if isinstance(sign, int) else ord(sign)], word)

    def test_size(self):
        for size in ("g", "A", " ", "-", "1g", "1A", "1 ", "1;", "00", "0a", "01", ":"):
            self.piece_fault(raw(size[:-1]), size[-1], "size")
        self.piece_fault([], "\r", "size")
        self.piece_fault(octets("1\n") + [7, 13, 10], "\r", "size")

    def test_control(self):
        for sign in "\n\x00\xff%\x7f":
            self.piece_fault([], sign, "control")
            self.piece_fault(raw("1"), sign, "control")
            self.piece_fault(raw("0"), sign, "control")
        for sign in "\r a\x00":
            self.piece_fault(raw("1\r"), sign, "control")
            self.piece_fault(raw("0\r"), sign, "control")

    def test_long(self):
        for size in ("4e20", "4e1f", "fff", "1000"):
            self.assertEqual(self.told(octets(self.START + size + "\n")), [])
        for size in ("4e21", "4e30", "4f00", "5000", "ffff", "10000"):
            self.fault(octets(self.START) + raw(size), "long")
            self.assertEqual(self.told(octets(self.START) + raw(size[:-1])), [])
        for ahead, size in ((19999, "2"), (20000, "1"), (19990, "b"), (19985, "10"), (1, "4e20"), (10, "9999")):
            row = octets(self.START) + raw(format(ahead, "x") + "\r\n") + [9] * ahead + [13, 10]
            self.fault(row + raw(size), "long")
        row = octets(self.START + "4e20\n") + [9] * 20000 + octets("\n0\n\n")
        self.values(row, [(request("POST", body=(9,) * 20000), len(row) - 1)])

    def test_piece(self):
        for sign in "\na0\x00\xff ":
            self.piece_fault(octets("1\n") + [7], sign, "piece")
            self.piece_fault(octets("0\n"), sign, "piece")
        for sign in "\ra0\x00":
            self.piece_fault(octets("1\n") + [7, 13], sign, "piece")
            self.piece_fault(octets("0\n") + [13], sign, "piece")
        self.piece_fault(octets("3\n") + [1, 2, 3], 4, "piece")

    def test_any_octets_in_a_piece(self):
        piece = tuple(range(256)) + (13, 10, 48, 13, 10, 13, 10)
        row = text("POST / E/1", pieces=(piece,))
        self.values(row, [(request("POST", body=piece), len(row) - 1)])


class Ends(Case):
    def test_behind_an_answer(self):
        row = text("E/1 200", (), body=(1,))
        for sign in (0, 13, 69, 255):
            self.assertEqual(self.told(row + [sign], method="GET"), [
                ("value", answer(200, (), (1,)), len(row) - 1), ("fault", "end", len(row)),
            ])
        reader = Reader("GET")
        self.assertTrue(reader.is_between())
        self.assertEqual(len(reader.feed(row)), 1)
        self.assertTrue(reader.is_between())
        self.assertEqual(reader.place(), len(row))
        self.assertEqual(reader.feed([0]), [("fault", "end", len(row))])
        self.assertFalse(reader.is_between())


class Readers(Case):
    def test_other_methods(self):
        for value in ODD + ("get", "PATCH", ("GET",)):
            if value is not None:
                with self.assertRaises(Unfit):
                    Reader(value)
        for method, _, _, _ in METHODS:
            self.assertTrue(Reader(method).is_between())
            self.assertEqual(Reader(method).place(), 0)
        self.assertTrue(Reader(None, True).is_between())

    def test_no_octets(self):
        for broken in (False, True):
            reader = Reader()
            reader.feed(raw("x" if broken else "GE"))
            for value in ODD + ("GET", b"T", (84,), [256], [-1], [True], [84, None], ["T"], [84.0], [[84]]):
                if not isinstance(value, list) or [type(octet) for octet in value] != [int] * len(value) or value in ([256], [-1]):
                    with self.assertRaises(Unfit):
                        calm(self, reader.feed, value)
            self.assertEqual(reader.place(), 1 if broken else 2)
            self.assertEqual(reader.feed([]), [])
            self.assertEqual(reader.feed(raw("T ")), [])
            self.assertEqual(reader.place(), 1 if broken else 4)

    def test_copies_of_wide_ones_are_wide(self):
        for method, row in ((None, text("GET /" + "a" * 500 + " E/1", (HOST, ("a", "b" * 300)))),
                            ("GET", text("E/1 200", (("a", "b" * 300),), body=(1,)))):
            for at in (3, 300, len(row) - 20):
                for wide in (True, False):
                    reader = Reader(method, wide)
                    first = reader.feed(row[:at])
                    self.assertEqual(first + reader.copy().feed(row[at:]), Reader(method, wide).feed(row))

    def test_copies_go_on_by_themselves(self):
        row = text("GET /a E/1") + text("PUT / E/1", (HOST, ("a", "b")), body=(1, 2, 3)) + text("POST / E/1", pieces=((1,) * 20,))
        for method, row in ((None, row), ("GET", text("E/1 200", (("a", "b"),), pieces=((1, 2), (3,))) + [5])):
            whole = Reader(method).feed(row)
            for at in range(len(row) + 1):
                reader = Reader(method)
                first = reader.feed(row[:at])
                other = reader.copy()
                self.assertEqual((other.place(), other.is_between()), (reader.place(), reader.is_between()))
                self.assertEqual(first + other.feed(row[at:]), whole)
                self.assertEqual(reader.place(), at if not first or first[-1][0] == "value" else first[-1][2] + 1)
                # What the one has taken is not taken by the other one.
                third = reader.copy()
                reader.feed([0, 0, 0])
                self.assertEqual(first + third.feed(row[at:]), whole)


if __name__ == "__main__":
    unittest.main()
