"""Points 520 to 524: targets, their normal forms, their printing, and segments."""

import random
import string
import unittest

from onepolicy.errors import Unfit
from onepolicy.heads import is_target
from onepolicy.paths import is_plain_segment, is_segment, normal, print_target
from samples import calm
from table_samples import ODD

SIGNS = "".join(chr(number) for number in range(32, 127) if number != 37)
PLAIN = string.ascii_lowercase + string.ascii_uppercase + string.digits + "-_."

# The digits of all signs that may stand in a segment, but not as they are.
OTHERS = "20 21 22 23 24 26 27 28 29 2A 2B 2C 3A 3B 3C 3D 3E 3F 40 5B 5D 5E 60 7B 7C 7D 7E".split()


def normal_by_words(target):
    """Return the normal form of a target as points 520 and 521 tell it, in another way."""
    path, query = target, None
    if "?" in target:
        at = target.index("?")
        path, query = target[:at], target[at + 1:]
    parts = path.split("/")[1:]
    found = []
    for part in parts:
        at, signs = 0, ""
        while at < len(part):
            if part[at] == "\\":
                return None
            if part[at] != "~":
                signs, at = signs + part[at], at + 1
                continue
            digits = part[at + 1:at + 3]
            if len(digits) < 2 or any(digit not in "0123456789abcdefABCDEF" for digit in digits):
                return None
            sign = chr(int(digits, 16))
            if sign not in SIGNS or sign in "/\\":
                return None
            signs, at = signs + sign, at + 3
        if len(signs) > 380:
            return None
        found.append(signs)
    segments = []
    for part in found:
        if part == "..":
            if not segments:
                return None
            segments = segments[:-1]
        elif part not in ("", "."):
            segments = segments + [part]
    return (tuple(segments), not segments or found[-1] in ("", ".", ".."), query)


class Normal(unittest.TestCase):
    def check(self, target, due):
        found = calm(self, normal, target)
        self.assertEqual((target, found), (target, due))
        self.assertEqual(normal_by_words(target), due)
        if due is not None:
            self.assertEqual([type(part) for part in found[:2]], [tuple, bool])

    def test_the_example(self):
        self.check("/a/./b~2d/../?x", (("a",), True, "x"))

    def test_queries(self):
        self.check("/", ((), True, None))
        self.check("/?", ((), True, ""))
        self.check("/a?", (("a",), False, ""))
        self.check("/a?b?c/../~zz\\", (("a",), False, "b?c/../~zz\\"))
        self.check("/a~3fb?c", (("a?b",), False, "c"))

    def test_parts(self):
        self.check("/a/b", (("a", "b"), False, None))
        self.check("/a/b/", (("a", "b"), True, None))
        self.check("//a///b", (("a", "b"), False, None))
        self.check("////", ((), True, None))
        self.check("/a/.", (("a",), True, None))
        self.check("/a/./.", (("a",), True, None))
        self.check("/./a", (("a",), False, None))
        self.check("/a/b/..", (("a",), True, None))
        self.check("/a/../b", (("b",), False, None))
        self.check("/a/..", ((), True, None))
        self.check("/.", ((), True, None))
        self.check("/...", (("...",), False, None))
        self.check("/.a/..b", ((".a", "..b"), False, None))
        self.check("/A/a", (("A", "a"), False, None))

    def test_dots_where_no_segment_is(self):
        for target in ("/..", "/../a", "/a/../..", "/a/../../b", "/./..", "//..", "/..?a"):
            self.check(target, None)

    def test_tildes(self):
        self.check("/~41~62~7e~7E", (("Ab~~",), False, None))
        self.check("/~7e41", (("~41",), False, None))
        self.check("/~2e", ((), True, None))
        self.check("/a/~2e", (("a",), True, None))
        self.check("/a/b/.~2E", (("a",), True, None))
        self.check("/a/~2e~2e/b", (("b",), False, None))
        self.check("/~2e~2e", None)
        self.check("/~20~23~3F", ((" #?",), False, None))
        self.check("/~2f", None)
        self.check("/~2F", None)
        self.check("/a~5c", None)
        self.check("/a~5Cb/..", None)
        self.check("/~25", None)
        for target in ("/~", "/~4", "/a~", "/~g0", "/~0g", "/~~41", "/~4~41", "/~/41", "/a/~4/b", "/~?41", "/~-1", "/~ A".replace(" ", "+")):
            self.check(target, None)

    def test_every_octet(self):
        for octet in range(256):
            sign = chr(octet)
            right = sign in SIGNS and sign not in "/\\"
            for word in {format(octet, "02x"), format(octet, "02X")}:
                due = ((("b", "a" + sign),), False) if right else None
                self.check("/b/a~" + word, due and (("b", "a" + sign), False, None))

    def test_backslashes(self):
        for target in ("/\\", "/a\\b/c", "/a\\/..", "/a/b\\"):
            self.check(target, None)
        self.check("/a?\\", (("a",), False, "\\"))

    def test_long_parts(self):
        self.check("/" + "a" * 380, (("a" * 380,), False, None))
        self.check("/" + "a" * 381, None)
        self.check("/" + "~61" * 380, (("a" * 380,), False, None))
        self.check("/" + "~61" * 381, None)
        self.check("/" + "a" * 381 + "/..", None)
        self.check("/" + ("a" * 379 + "/") * 4, (("a" * 379,) * 4, True, None))
        self.check("/a?" + "b" * 1897, (("a",), False, "b" * 1897))

    def test_no_targets(self):
        for value in ODD + ("a", "", "/ ", "/#", "/a b", "/%41", "/\n", "/" + "a" * 1900, b"/"):
            with self.assertRaises(Unfit):
                calm(self, normal, value)
        self.assertIsNone(normal("/" + "a" * 1899))

    def test_random_ones(self):
        draw = random.Random(521)
        for _ in range(4000):
            words = ["/", ".", "..", "~2e", "~2E", "~2f", "a", "B", "~61", "~", "~4", "\\", "?", "-", "~7e", "~20"]
            target = "/" + "".join(draw.choice(words) for _ in range(draw.randrange(9)))
            self.check(target, normal_by_words(target))


class Print(unittest.TestCase):
    def check(self, form, due):
        self.assertEqual(calm(self, print_target, form), due)

    def test_forms(self):
        self.check(((), True, None), "/")
        self.check(((), True, ""), "/?")
        self.check(((), True, "a/b?c"), "/?a/b?c")
        self.check((("a",), False, None), "/a")
        self.check((("a",), True, None), "/a/")
        self.check((("a", "b"), True, "x"), "/a/b/?x")
        self.check((("a", "b"), False, "~\\"), "/a/b?~\\")

    def test_signs(self):
        self.check(((PLAIN,), False, None), "/" + PLAIN)
        for sign in SIGNS:
            if sign not in "/\\":
                shown = sign if sign in PLAIN else "~" + format(ord(sign), "02X")
                self.check((("a" + sign,), False, None), "/a" + shown)
        self.check((("~41", " ", "..."), False, None), "/~7E41/~20/...")

    def check_sign(self, sign, shown):
        """Check how a sign is printed: alone and at each place of a segment, in one segment and among others."""
        for form in ("#", "##", "#a", "a#", "a#a", "#a#"):
            segment, due = form.replace("#", sign), form.replace("#", shown)
            if segment not in (".", ".."):
                self.check(((segment,), False, None), "/" + due)
                self.check((("b", segment, "b"), True, "q"), "/b/" + due + "/b/?q")

    def test_plain_signs_stand_as_they_are(self):
        self.assertEqual(len(set(PLAIN)), 26 + 26 + 10 + 3)
        for sign in PLAIN:
            self.check_sign(sign, sign)

    def test_other_signs_stand_as_their_digits(self):
        self.assertEqual(sorted(PLAIN + "/\\" + "".join(chr(int(word, 16)) for word in OTHERS)), sorted(SIGNS))
        for word in OTHERS:
            self.check_sign(chr(int(word, 16)), "~" + word)

    def test_it_may_be_longer_than_a_target(self):
        self.check((("!" * 380,) * 3, False, None), "/" + "/".join(["~21" * 380] * 3))

    def test_no_forms(self):
        right = (("a",), False, "q")
        wrong = [((), False, None), (["a"], False, None), (("",), False, None), ((".",), False, None), (("..",), True, None),
                 (("a/b",), True, None), (("a\\",), True, None), (("a" * 381,), True, None), (("%",), True, None),
                 (("a",), 1, None), (("a",), 0, None), (("a",), None, None), (("a",), True, "a b"), (("a",), True, "#"),
                 (("a",), True, "%"), (("a",), True, 5), (("a",), True, ("q",)), ("a", True, None), ((("a",),), True, None),
                 right[:2], right + (None,), list(right), (True, True, None), ((1,), True, None)]
        for value in wrong + list(ODD):
            with self.assertRaises(Unfit):
                calm(self, print_target, value)

    def test_there_and_back(self):
        draw = random.Random(523)
        for _ in range(3000):
            target = "/" + "".join(draw.choice("/.~2ea?b-B!") for _ in range(draw.randrange(12)))
            form = normal(target)
            if form is not None:
                shown = print_target(form)
                self.assertTrue(is_target(shown, True))
                self.assertEqual(normal(shown), form)
                self.assertEqual(print_target(normal(shown)), shown)


class Segments(unittest.TestCase):
    def ask(self, function, due, value):
        self.assertIs(calm(self, function, value), due, value)

    def test_segments(self):
        for value in ("a", "~", " ", "a b", "...", "#?", "a" * 380, SIGNS.replace("/", "").replace("\\", "")):
            self.ask(is_segment, True, value)
        for value in ("", ".", "..", "/", "a/b", "\\", "a\\", "a" * 381, "%", "\n", "\u00e4"):
            self.ask(is_segment, False, value)
            self.ask(is_plain_segment, False, value)

    def test_plain_segments(self):
        for value in ("a", "A9-._", "...", "-", "a" * 20):
            self.ask(is_plain_segment, True, value)
        for sign in SIGNS:
            if sign != ".":
                self.ask(is_plain_segment, sign in PLAIN, sign)
                self.ask(is_plain_segment, sign in PLAIN, "a" + sign)
        for value in ("a" * 21, "~41", "a b"):
            self.ask(is_plain_segment, False, value)

    def test_anything(self):
        for value in ODD:
            for function in (is_segment, is_plain_segment):
                self.ask(function, value in ("x", "cut") and isinstance(value, str), value)


if __name__ == "__main__":
    unittest.main()
