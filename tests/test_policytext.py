"""Points 540 to 546: plain policies, their texts, and each refusal of a text with its line and place."""

import random
import unittest

from onepolicy.errors import BadText, Unfit
from onepolicy.policytext import is_plain_policy, print_policy, read_policy
from onepolicy.versions import KEYS
from edge_samples import policy
from samples import calm
from table_samples import ODD

SMALL = "last (1 2)\ntimes ()\nroom 1\nkeep 2\n"
SIGNS = "".join(chr(number) for number in range(32, 127) if number != 37)


def plain(**parts):
    found = {
        "rules": ((), (1, 2)), "services": (), "limits": (), "times": (), "room": 1, "routes": (), "headers": (), "errors": (),
        "trusted": (), "keep": 2,
    }
    return {**found, **parts}


def nest(depth, inner=()):
    """Return a value nested so deep."""
    value = inner if depth else 7
    for _ in range(depth - 1):
        value = (value,)
    return value


class Plain(unittest.TestCase):
    def ask(self, value, due):
        self.assertIs(calm(self, is_plain_policy, value), due, value)
        if due:
            self.assertEqual(read_policy(calm(self, print_policy, value)), value)
        else:
            with self.assertRaises(Unfit):
                calm(self, print_policy, value)

    def test_right_ones(self):
        self.ask(policy(), True)
        self.ask(plain(), True)
        self.ask(plain(rules=(((1, 2, 3), ("a", None, ())), ((), ()))), True)
        for value in (0, 999999999999, "", SIGNS, None, (), ((),), (1, ("a", (None,)))):
            self.ask(plain(room=value, keep=value, rules=(((value,) * 3,), (value, value))), True)
            for key in ("services", "limits", "routes", "headers", "errors", "trusted"):
                self.ask(plain(**{key: (value, value)}), True)

    def test_depths(self):
        for depth in range(22):
            value = nest(depth)
            for key in ("room", "keep"):
                self.ask(plain(**{key: value}), depth <= 20)
            for key in ("services", "limits", "routes", "headers", "errors", "trusted"):
                self.ask(plain(**{key: (1, value)}), depth <= 20)
            self.ask(plain(times=(value,)), depth <= 19)
            self.ask(plain(rules=(((1, value, 2),), (1, 2))), depth <= 19)
            self.ask(plain(rules=((), (value, 2))), depth <= 19)

    def test_values_that_are_not_plain(self):
        for value in (-1, 1000000000000, True, False, 1.5, "%", "\n", "\u00e4", b"a", [], [1], {}, {1: 2}, (1, [2]), (True,), ((-1,),)):
            for key in ("room", "keep"):
                self.ask(plain(**{key: value}), False)
            for key in ("services", "limits", "routes", "headers", "errors", "trusted"):
                self.ask(plain(**{key: (value,)}), False)
            self.ask(plain(times=(value,)), False)
            self.ask(plain(rules=(((1, value, 2),), (1, 2))), False)
            self.ask(plain(rules=((), (1, value))), False)

    def test_parts_that_are_no_tuples_of_theirs(self):
        for value in ODD + ("rows", [1]):
            if not isinstance(value, tuple):
                for key in ("services", "limits", "routes", "headers", "errors", "trusted", "times"):
                    self.ask(plain(**{key: value}), False)
            self.ask(plain(rules=value), False)
        for rules in (((),), ((), (1, 2), 3), ([], (1, 2)), ((), [1, 2]), ((), (1,)), ((), (1, 2, 3)), ((), 5), (5, (1, 2)),
                      (((1, 2),), (1, 2)), (((1, 2, 3, 4),), (1, 2)), ((5,), (1, 2)), (([1, 2, 3],), (1, 2)), [(), (1, 2)]):
            self.ask(plain(rules=rules), False)

    def test_keys(self):
        for key in KEYS:
            value = plain()
            del value[key]
            self.ask(value, False)
            value["x"] = ()
            self.ask(value, False)
        self.ask({**plain(), "x": 1}, False)
        self.ask({**plain(), None: 1}, False)
        self.ask({key: 1 for key in range(10)}, False)
        for value in ODD:
            self.ask(value, False)


class Printing(unittest.TestCase):
    def test_the_whole_text(self):
        value = plain(
            rules=(((1, "a b", None), ((), ((0,),), 999999999999)), ("last", ())), services=((), 5), limits=("x",), times=("times", 1),
            room=64, routes=(("\\", "\""),), headers=(None,), errors=((1, 2),), trusted=((3, 4), (5, 6)), keep="stay")
        self.assertEqual(calm(self, print_policy, value), "\n".join([
            'rule (1 "a b" none)', 'rule (() ((0)) 999999999999)', 'last ("last" ())', 'service ()', 'service 5', 'limit "x"',
            'times ("times" 1)', 'room 64', 'route ("\\\\" "\\"")', 'header none', 'error (1 2)', 'trusted (3 4)', 'trusted (5 6)',
            'keep "stay"', '']))
        self.assertEqual(print_policy(plain()), SMALL)

    def test_there_and_back(self):
        draw = random.Random(546)

        def any_value(depth):
            kind = draw.randrange(5 if depth else 4)
            if kind == 0:
                return draw.choice([0, 1, 10, 999999999999, 12345])
            if kind == 1:
                return "".join(draw.choices(SIGNS, k=draw.randrange(6)))
            if kind == 2:
                return draw.choice(["\\", "\"", "\\\"", "#", "none", "(", " ", "\\\\"])
            if kind == 3:
                return None
            return some(depth - 1)

        def some(depth, many=None):
            return tuple(any_value(depth) for _ in range(draw.randrange(5) if many is None else many))

        for _ in range(400):
            value = plain(rules=(tuple(some(4, 3) for _ in range(draw.randrange(4))), some(4, 2)), times=some(4), room=any_value(4),
                          keep=any_value(4), **{key: some(5) for key in (
                              "services", "limits", "routes", "headers", "errors", "trusted")})
            text = print_policy(value)
            found = read_policy(text)
            self.assertEqual(found, value)
            self.assertEqual(list(found), list(KEYS))
            self.assertTrue(is_plain_policy(found))
            self.assertEqual(print_policy(found), text)
            # Blanks, empty lines and remarks change nothing.
            loose = "\n".join(line + draw.choice(["", " ", "  # a remark (\"", "#", "\n", "\n  # x\n\n"]) for line in text.split("\n"))
            self.assertEqual(read_policy(loose), value)


class Reading(unittest.TestCase):
    def check(self, lines, **parts):
        """Look at the text of a small policy with some lines ahead of those that it must have."""
        text = SMALL
        for word, line in lines.items():
            text = text.replace(word, line + "\n" + word if line else "", 1)
        self.assertEqual(calm(self, read_policy, text), plain(**parts))

    def test_tokens(self):
        self.check({"last": "rule(1\"a\"none)"}, rules=(((1, "a", None),), (1, 2)))
        self.check({"last": "   rule  ( 1   2\"\"  )  # (" }, rules=(((1, 2, ""),), (1, 2)))
        self.check({"last": "rule (1 2 3)#last"}, rules=(((1, 2, 3),), (1, 2)))
        self.check({"times": "service 5#\nservice none#\nservice 0"}, services=(5, None, 0))
        self.check({"times": "service\"a#b\\\\\\\"\"\nservice(1(2)\"\"(none)3)"}, services=("a#b\\\"", (1, (2,), "", (None,), 3)))
        self.check({"times": "service (none\"none\"none)\nservice(5(6)7)"}, services=((None, "none", None), (5, (6,), 7)))
        self.check({"times": "service 123456789012\nservice 10"}, services=(123456789012, 10))

    def test_lines_in_their_order(self):
        self.check({"last": "rule (1 2 3)\n\n#x\nrule (4 5 6)"}, rules=(((1, 2, 3), (4, 5, 6)), (1, 2)))
        self.check({"times": "service 1\nlimit 2\nlimit 3", "keep": "route 4\nheader 5\nheader 6\nerror 7\ntrusted 8\ntrusted 9"},
                   services=(1,), limits=(2, 3), routes=(4,), headers=(5, 6), errors=(7,), trusted=(8, 9))
        self.check({"keep": "trusted 1"}, trusted=(1,))
        self.check({"keep": "header 1\ntrusted 2"}, headers=(1,), trusted=(2,))

    def test_the_end_of_the_text(self):
        self.assertEqual(read_policy(SMALL[:-1]), plain())
        self.assertEqual(read_policy(SMALL + "\n\n  #keep\n"), plain())
        self.assertEqual(read_policy("\n \n" + SMALL), plain())

    def test_no_strings_of_the_told_signs(self):
        for value in ODD + ("%", SMALL + "%", SMALL.replace("\n", "\r\n"), "\t", SMALL + "\x00", "\u00e4", SMALL.encode(), [SMALL]):
            if value not in ("", "x", "cut") or not isinstance(value, str):
                with self.assertRaises(Unfit):
                    calm(self, read_policy, value)


class Refusals(unittest.TestCase):
    def bad(self, text, line, place):
        with self.assertRaises(BadText) as caught:
            calm(self, read_policy, text)
        self.assertEqual((text, caught.exception.line, caught.exception.place), (text, line, place))

    def line(self, text, place):
        """Look at a line of a service, as the second line of a text, whatever stands behind it."""
        for behind in ("", "\nkeep (", "\n" + SMALL[10:]):
            self.bad("last (1 2)\n" + text + behind, 2, place)

    def test_signs_that_begin_no_token(self):
        for sign in "!$&'*+,-./:;<=>?@AZ[\\]^_`{|}~":
            self.line("service " + sign, 9)
            self.line(sign, 1)
            self.line("  service (1 " + sign + " 2)", 14)
            self.line("service 5 " + sign, 11)

    def test_words_and_integers_that_do_not_end(self):
        for sign in "0A_-~\\":
            self.line("service" + sign, 8)
            self.line("service none" + sign, 13)
            self.line("xyz" + sign, 4)
        for sign in "aA_-.\\":
            self.line("service 12" + sign, 11)
            self.line("service 0" + sign, 10)
            self.line("7" + sign, 2)
        # What can't be read is told ahead of where it stands.
        self.line("none1", 5)
        self.line("service 5 abc1", 14)
        self.line("service 5 6x", 12)

    def test_integers(self):
        self.line("service 00", 10)
        self.line("service 01", 10)
        self.line("service (0 012", 13)
        self.line("service 1234567890123", 21)
        self.line("service 12345678901234567", 21)
        self.line("service 123456789012a", 21)
        self.line("0123", 2)

    def test_strings(self):
        self.line("service \"abc", 13)
        self.line("service \"", 10)
        self.line("service \"abc # x", 17)
        self.line("service \"abc\\", 14)
        self.line("service \"abc\\\"", 15)
        self.line("service \"ab\\c\"", 13)
        self.line("service \"ab\\ \"", 13)
        self.line("service \"\\n\"", 11)
        self.line("service 5 \"abc", 15)
        self.line("\"abc", 5)
        self.line("service (\"a\"\"b", 15)

    def test_first_tokens(self):
        for text in ("5", "\"service\"", "(", ")", "none", "services", "servic", "last (1 2)", "rule (1 2 3)", "room 5", "keep 5",
                     "route 5", "header 5", "error 5", "trusted 5", "x y z"):
            self.line(text, 1)
            self.line("   " + text, 4)

    def test_words_may_be_long(self):
        self.line("abcdefghijklmnopqrst", 1)
        self.line("service abcdefghijklmnopqrst", 9)
        self.line("service abcdefghijklmnopqrst1", 29)

    def test_the_order_of_lines(self):
        words = ["rule (1 2 3)", "last (1 2)", "service 1", "limit 1", "times ()", "room 1", "route 1", "header 1", "error 1",
                 "trusted 1", "keep 1"]
        ones = (1, 4, 5, 10)
        for stage in range(len(words)):
            for word in range(len(words)):
                ahead = [words[at] for at in range(stage + 1) if at in ones or at == stage]
                text = "\n".join(ahead + [words[word]])
                first = stage + 1 if stage in ones else stage
                can = first <= word and not any(at in ones for at in range(first, word))
                if not can:
                    self.bad(text, len(ahead) + 1, 1)
                elif word < 10:
                    self.bad(text, len(ahead) + 2, 1)
                else:
                    self.assertEqual(read_policy(text)["keep"], 1)

    def test_behind_keep(self):
        for word in ("keep 2", "rule (1 2 3)", "last", "x", "("):
            self.bad(SMALL + word, 5, 1)
        self.bad(SMALL + "# x\n  \nkeep", 7, 1)

    def test_values(self):
        for text, place in (("service x", 9), ("service non", 9), ("service (none nones)", 15), ("service )", 9), ("service (()))", 13),
                            ("service 5 6", 11), ("service 5 )", 11), ("service 5 (", 11), ("service none none", 14),
                            ("service \"a\" \"b\"", 13), ("service ()()", 11), ("service (1 service)", 12), ("service service", 9)):
            self.line(text, place)

    def test_ends_of_lines_where_something_is_due(self):
        for text in ("service", "service  ", "service#", "service # a (", "service (", "service (1 (2) ", "service ((1)#", "  service"):
            self.line(text, len(text) + 1)

    def test_depths(self):
        self.assertEqual(read_policy(SMALL.replace("times", "service " + "(" * 20 + ")" * 20 + "\ntimes"))["services"], (nest(20),))
        self.line("service " + "(" * 21 + ")" * 21, 29)
        self.line("service " + "(" * 21, 29)
        self.line("service " + "(" * 20, 29)
        self.line("service (" + "(" * 19 + ")" * 19 + "(" * 20, 9 + 38 + 20)

    def test_tuples_of_some_lines(self):
        for value in ("5", "none", "\"abc\"", "()", "(1)", "(1 2)", "(1 2 3 4)"):
            self.bad("rule " + value, 1, 6)
            self.bad("  rule   " + value + " # x", 1, 10)
        for value in ("5", "none", "\"ab\"", "()", "(1)", "(1 2 3)"):
            self.bad("last " + value, 1, 6)
        for value in ("5", "none", "\"ab\""):
            self.bad("last (1 2)\ntimes " + value, 2, 7)
        # Behind all other faults of the line.
        self.bad("rule (1 2) x", 1, 12)
        self.bad("rule 5 6", 1, 8)
        self.bad("rule (1", 1, 8)

    def test_missing_lines(self):
        self.bad("", 2, 1)
        self.bad("\n", 3, 1)
        self.bad("rule (1 2 3)", 2, 1)
        self.bad("rule (1 2 3)\n", 3, 1)
        lines = SMALL.split("\n")[:4]
        for many in range(4):
            self.bad("\n".join(lines[:many]) + "\n", max(many, 1) + 2 if many else 3, 1)
            if many:
                self.bad("\n".join(lines[:many]), many + 1, 1)
        self.bad("# only a remark", 2, 1)

    def test_the_first_line_with_a_fault(self):
        self.bad("last 5\nservice (\nx", 1, 6)
        self.bad("\n\n# x\nlast (1 2)\n\nservice (\nx", 6, 10)


if __name__ == "__main__":
    unittest.main()
