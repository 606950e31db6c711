"""Points 505, 506 and 511 to 513: readers beside a check of whole rows of texts by their written form."""

import random
import re
import unittest

from onepolicy.heads import METHODS
from onepolicy.reading import Reader
from onepolicy.writing import write_answer, write_request
from edge_samples import answer, request, text

SIGN = r"[ -$&-~]"
REQUEST = re.compile(r"(GET|HEAD|PUT|POST|DELETE) (/[!\"$&-~]*) E/1\r\n((?:[^\r\n]*\r\n)*?)\r\n", re.A)
ANSWER = re.compile(r"E/1 ([2-5][0-9][0-9])\r\n((?:[^\r\n]*\r\n)*?)\r\n", re.A)
HEADER = re.compile(r"([a-zA-Z0-9-]{1,24}): (|[!-$&-~]|[!-$&-~]%s*[!-$&-~])" % SIGN, re.A)
PIECE = re.compile(r"(0|[1-9a-f][0-9a-f]{0,4})\r\n", re.A)


def headers_of(lines, wide):
    """Return the headers, the length and whether there are pieces, of the lines of a head; None if one is wrong."""
    headers, length, pieces = [], None, False
    for line in lines.split("\r\n")[:-1]:
        match = HEADER.fullmatch(line)
        if not match:
            return None
        name, value = match[1].lower(), match[2]
        if len(value) > (400 if wide else 200):
            return None
        if name in ("length", "transfer"):
            if length is not None or pieces:
                return None
            if name == "transfer":
                if value != "pieces":
                    return None
                pieces = True
            elif not re.fullmatch("0|[1-9][0-9]{0,4}", value) or int(value) > 20000:
                return None
            else:
                length = int(value)
        else:
            headers.append((name, value))
    names = [name for name, _ in headers]
    if len(headers) > (70 if wide else 30) or max(names.count("host"), names.count("connection")) > 1:
        return None
    return headers, length, pieces


def body_at(row, at, length, pieces):
    """Return the body and the place behind it, or None."""
    if not pieces:
        if length is None:
            return None, at
        return (tuple(map(ord, row[at:at + length])), at + length) if at + length <= len(row) else None
    body = ()
    while True:
        match = PIECE.match(row, at)
        if not match:
            return None
        size, at = int(match[1], 16), match.end()
        if row[at + size:at + size + 2] != "\r\n" or len(body) + size > 20000:
            return None
        body += tuple(map(ord, row[at:at + size]))
        at += size + 2
        if size == 0:
            return body, at


def texts_of(row, method, wide):
    """Return what is told of a whole row of texts, in which heads that point 510 refuses count as right; None if it is none."""
    at, found = 0, []
    while at < len(row):
        match = (REQUEST if method is None else ANSWER).match(row, at)
        if not match or method is not None and found:
            return None
        told = headers_of(match[3] if method is None else match[2], wide)
        if told is None or not wide and match.end() - at > 2000:
            return None
        headers, length, pieces = told
        if method is None:
            can = match[1] in ("PUT", "POST")
            if len(match[2]) > (1900 if wide else 380):
                return None
            hosts = [value for name, value in headers if name == "host"]
            refused = not hosts or not re.fullmatch("[a-z0-9.-]{1,60}", hosts[0])
            start = (match[1], match[2])
        else:
            can = method != "HEAD" and match[1] not in ("204", "304")
            if any(name == "host" for name, _ in headers):
                return None
            refused = can and length is None and not pieces
            start = (int(match[1]),)
        if not can and (length is not None or pieces):
            return None
        if refused:
            # Nothing is read behind it, so the row must end here.
            return found + ["refused"] if match.end() == len(row) else None
        body = body_at(row, match.end(), length, pieces)
        if body is None:
            return None
        at = body[1]
        found.append(("value", start + (tuple(headers), body[0]), at - 1))
    return found


TAILS = ["GET / E/1\r\n\r\n", "HEAD / E/1\r\n\r\n", "PUT / E/1\r\n\r\n", "POST / E/1\r\n\r\n", "DELETE / E/1\r\n\r\n", "E/1 200\r\n\r\n",
         "E/1 304\r\n\r\n", "x: v\r\n\r\n", "x: \r\n\r\n", "transfer: pieces\r\n\r\n", "length: 0\r\n\r\n", "transfer: pieces\r\n\r\n0\r\n\r\n", "v\r\n0\r\n\r\n", "\r\n\r\n0\r\n\r\n"]
ENDS = sorted({tail[at:] for tail in TAILS for at in range(len(tail) + 1)}, key=len)

# What may stand ahead of the octets that are due of a body.
STARTS = ["", "\n", "\r\n", "\n\r\n"] + [end for end in ENDS if end.endswith("\r\n\r\n")]


def tails(row):
    """Return rows that may make a row whole: ends of texts, some of them with so many octets as may be due."""
    # What is due of a body is what was told, less what has come since.
    fills = {}
    for match in re.finditer("ength: ([0-9]{1,5})(?=\r|$)", row):
        behind = len(row) - row.find("\r\n\r\n", match.end()) - 4
        fills[int(match[1]) - (behind if "\r\n\r\n" in row[match.end():] else 0)] = True
    for match in re.finditer("\n([0-9a-f]{1,5})(?=\r\n|\r?$)", row):
        fills[int(match[1], 16) - max(0, len(row) - match.end() - 2)] = True
    ends = [start + "z" * fill + end for fill in fills if 0 < fill <= 20000
            for start in STARTS for end in ("", "\r\n0\r\n\r\n")]
    return ENDS + ends


def can_be_whole(row, method, wide):
    return any(texts_of(row + tail, method, wide) is not None for tail in tails(row))


def raw(row):
    return "".join(map(chr, row))


def random_text(draw, method):
    """Return the octets of a text that is mostly right."""
    names = ["a", "host", "Host", "connection", "x-y", "len", "transfe"] if draw.randrange(3) == 0 else ["a", "b-c"]
    headers = [(draw.choice(names), draw.choice(["", "v", "a b", "x" * 5])) for _ in range(draw.randrange(4))]
    if method is None:
        headers.insert(draw.randrange(len(headers) + 1), ("host", draw.choice(["a.b", "a.b", "A"])))
        first = draw.choice([row[0] for row in METHODS]) + " " + draw.choice(["/", "/a?b", "/~41"]) + " E/1"
    else:
        first = "E/1 " + draw.choice(["200", "204", "304", "404"])
    kind = draw.randrange(4)
    body = tuple(draw.choices([7, 13, 10, 65], k=draw.choice([0, 1, 3, 12])))
    if kind == 0:
        return text(first, headers)
    if kind == 1:
        return text(first, headers, body=body)
    if kind == 2:
        return text(first, headers, pieces=[body[:4], body[4:]] if len(body) > 4 else [body] if body else [])
    return text(first, headers + [("length", str(len(body)))]) + list(body)


def bent(draw, row):
    """Return a row of octets with one thing changed, left out or put in, or as it is."""
    at, kind = draw.randrange(len(row) + 1), draw.randrange(5)
    sign = draw.choice([0, 10, 13, 32, 35, 37, 47, 48, 49, 58, 65, 97, 101, 102, 108, 116, 126, 127, 255])
    if kind == 0:
        return row[:at] + [sign] + row[at:]
    if kind == 1:
        return row[:at] + row[at + 1:]
    if kind == 2:
        return row[:at] + [sign] + row[at + 1:]
    return row


class Exactly(unittest.TestCase):
    def check(self, row, method, wide=False):
        """Look at what is told of a row: values of whole texts, and the fault where no texts can be made of it."""
        told = Reader(method, wide).feed(row)
        shown = raw(row)
        values = [found for found in told if found[0] == "value"]
        end = values[-1][2] + 1 if values else 0
        self.assertEqual(texts_of(shown[:end], method, wide), values)
        if told[len(values):]:
            (_, word, place), = told[len(values):]
            self.assertTrue(can_be_whole(shown[:place], method, wide), (shown[-90:], word, place))
            if word == "empty" or word == "host" and method is None:
                self.assertEqual(texts_of(shown[:place + 1], method, wide), values + ["refused"], (shown[-90:], word, place))
            else:
                self.assertFalse(can_be_whole(shown[:place + 1], method, wide), (shown[-90:], word, place))
        else:
            self.assertTrue(can_be_whole(shown, method, wide), shown)
        return told

    def test_rows_with_one_thing_wrong(self):
        draw = random.Random(512)
        words = {}
        for _ in range(2500):
            method = draw.choice([None, None, "GET", "HEAD"])
            row = bent(draw, random_text(draw, method))
            if method is None and draw.randrange(3) == 0:
                row = row + bent(draw, random_text(draw, method))
            for found in self.check(row, method, draw.randrange(2) == 1):
                words[found[1] if found[0] == "fault" else "value"] = True
        self.assertLessEqual({"value", "method", "version", "target", "name", "blank", "value", "control", "host", "length",
                              "body", "piece", "end", "empty", "status", "twice"}, set(words))

    def test_rows_of_any_octets(self):
        draw = random.Random(513)
        for _ in range(600):
            row = list(draw.choice([b"GET / E/1\r\n", b"PUT / E/1\r\nlength: ", b"PUT / E/1\r\ntransfer: pieces\r\nhost: a\r\n\r\n"]))
            row += draw.choices([13, 10, 32, 58, 48, 49, 97, 98], k=draw.randrange(8))
            self.check(row, None)

    def test_long_heads(self):
        draw = random.Random(514)
        words = {}
        for _ in range(250):
            row, many = list(b"PUT / E/1\r\nhost: a\r\n"), draw.choice([9, 20, 29])
            rest = 1975 - len(row)
            for left in range(many, 0, -1):
                row += list(b"a: ") + [98] * min(rest // left - 5, 200) + [13, 10]
                rest = 1975 - len(row)
            line = draw.choice([b"length: 12345\r\n", b"transfer: pieces\r\n", b"bb: cccc cccc\r\n", b"connection: x\r\n", b"host: aaaaaa\r\n"])
            row += list(draw.choice([b"", b"x: y\r\n", b"xx: yy\r\n", b"xxx: yyyyy\r\n"]) + line + b"\r\n")
            for found in self.check(row[:len(row) - draw.choice([0, 0, 1, 4])], None):
                words[found[1] if found[0] == "fault" else "value"] = True
        self.assertLessEqual({"head", "many", "twice"}, set(words))


class OneReading(unittest.TestCase):
    def test_every_cut(self):
        draw = random.Random(511)
        for _ in range(150):
            method = draw.choice([None, None, "GET", "HEAD"])
            row = bent(draw, random_text(draw, method)) + (bent(draw, random_text(draw, method)) if method is None else [])
            whole = Reader(method).feed(row)
            for size in range(1, 12):
                self.pieces(row, method, [row[at:at + size] for at in range(0, len(row), size)], whole)
            at = draw.randrange(len(row) + 1)
            self.pieces(row, method, [[], row[:at], [], row[at:]], whole)

    def pieces(self, row, method, parts, whole):
        """Feed a row in pieces; each thing is told by the piece with the octet of its place."""
        reader, begin, told = Reader(method), 0, []
        for part in parts:
            found = reader.feed(part)
            for row_told in found:
                self.assertTrue(begin <= row_told[2] < begin + len(part))
            told += found
            begin += len(part)
        self.assertEqual(told, whole)


class ThereAndBack(unittest.TestCase):
    def test_wide_values(self):
        draw = random.Random(505)
        for _ in range(300):
            headers = tuple((draw.choice(["a", "b" * 24, "connectio"]), "v" * draw.choice([0, 1, 200, 400]))
                            for _ in range(draw.choice([0, 3, 30, 68])))
            body = tuple(draw.choices(range(256), k=draw.choice([0, 1, 500])))
            method = draw.choice(["GET", "PUT", "POST", "DELETE", "HEAD"])
            value = request(method, "/" + "a" * draw.choice([0, 379, 1899]), headers + (("host", "h"),),
                            draw.choice([None, body]) if method in ("PUT", "POST") else None)
            row = write_request(value)
            self.back(row, value, None)
            status = draw.choice([200, 204, 304, 599])
            value = answer(status, headers, body if method != "HEAD" and status not in (204, 304) else None)
            self.back(write_answer(value, method), value, method)

    def back(self, row, value, method):
        self.assertEqual(Reader(method, True).feed(row), [("value", value, len(row) - 1)])
        head = raw(row).index("\r\n\r\n") + 4
        narrow = len(value[-2]) <= 30 and all(len(text) <= 200 for _, text in value[-2])
        if method is None:
            narrow = narrow and len(value[1]) <= 380
        told = Reader(method).feed(row)
        self.assertEqual(told == [("value", value, len(row) - 1)], narrow and head <= 2000)

    def test_great_bodies(self):
        value = request("POST", body=tuple(at % 256 for at in range(20000)))
        self.back(write_request(value), value, None)


if __name__ == "__main__":
    unittest.main()
