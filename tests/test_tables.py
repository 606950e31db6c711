"""Points 300 to 303: the points of packets, deciders, verdicts, and the faults of tables."""

import unittest

from flow_samples import HOST
from onepolicy.boxes import GREATEST
from onepolicy.tables import decider, fault_of_table, point_of, verdict
from samples import OWN, PACKETS, PC, SERVER, calm, echo, packet, put, tcp, udp
from table_samples import ALL, ODD, WHOLE, match, rule, table

FEW = table(rule("a", ["x"], f1=[(6, 6)]), rule("b", f1=[(17, 17)], f5=[(53, 53), (80, 90)]), rule("c", f0=[(0, 0)]))


class Points(unittest.TestCase):
    def test_of_all_kinds(self):
        for body, due in (
            (udp(), (17, PC, 40000, SERVER, 53)), (tcp(2), (6, PC, 40000, SERVER, 80)),
            (echo("ask", 77), (1, PC, 77, SERVER, 0)), (echo("answer", 77), (1, PC, 0, SERVER, 77)),
        ):
            self.assertEqual(calm(self, point_of, "in", packet(body)), (1,) + due)
            self.assertEqual(calm(self, point_of, "out", packet(body)), (0,) + due)
        self.assertEqual(point_of("out", packet(udp(5, 6), HOST, OWN)), (0, 17, HOST, 5, OWN, 6))

    def test_all_are_in_the_whole_box(self):
        for given in PACKETS:
            if given[7][0] != "failure":
                for number, greatest in zip(point_of("in", given), GREATEST):
                    self.assertTrue(0 <= number <= greatest)


class Deciders(unittest.TestCase):
    def check(self, value, point, index, due):
        self.assertEqual(calm(self, decider, value, point), index)
        self.assertEqual(calm(self, verdict, value, point), due)
        self.assertIs(type(verdict(value, point)), tuple)

    def test_the_first_one(self):
        self.check(FEW, (0, 6, 1, 2, 3, 53), 0, ("a", ("x",)))
        self.check(FEW, (0, 17, 1, 2, 3, 53), 1, ("b", ()))
        self.check(FEW, (0, 17, 1, 2, 3, 54), 2, ("c", ()))
        self.check(FEW, (1, 17, 1, 2, 3, 54), 3, ("drop", ()))

    def test_no_rules(self):
        self.check(table(last=7, limits=["y"]), (0,) * 6, 0, (7, ("y",)))

    def test_a_row_without_ranges_has_no_number(self):
        self.check(table(rule("a", f3=[])), (0,) * 6, 1, ("drop", ()))

    def test_both_ends_of_ranges(self):
        for field, greatest in enumerate(GREATEST):
            middle = greatest // 2
            value = table((WHOLE[:field] + (((0, 0), (middle + 2, greatest)),) + WHOLE[field + 1:], "a", ()))
            for number in (0, 1, middle + 1, middle + 2, greatest - 1, greatest):
                if number <= greatest:
                    point = (0,) * field + (number,) + (0,) * (5 - field)
                    self.check(value, point, 0 if number == 0 or number >= middle + 2 else 1,
                               ("a", ()) if number == 0 or number >= middle + 2 else ("drop", ()))

    def test_every_field_counts(self):
        inner = tuple((low + (high > 1), high - (high > 1)) for low, high in ALL)
        value = table((tuple((part,) for part in inner), "a", ()))
        point = tuple(low for low, high in inner)
        self.check(value, point, 0, ("a", ()))
        for field in range(1, 6):
            self.check(value, put(point, [field], 0), 1, ("drop", ()))
            self.check(value, put(point, [field], GREATEST[field]), 1, ("drop", ()))

    def test_four_ranges(self):
        value = table(rule("a", f5=[(0, 0), (2, 3), (5, 5), (65535, 65535)]))
        for number, due in ((0, 0), (1, 1), (2, 0), (3, 0), (4, 1), (5, 0), (6, 1), (65534, 1), (65535, 0)):
            self.assertEqual(decider(value, (0, 0, 0, 0, 0, number)), due)


class Faults(unittest.TestCase):
    def check(self, value, due):
        self.assertEqual(calm(self, fault_of_table, value), due, value)

    def row(self, field, row, word):
        """Look at a row in a second rule, behind a right one, and with a wrong table behind it."""
        wrong = WHOLE[:field] + (row,) + WHOLE[field + 1:]
        due = None if word is None else (1, field, word)
        self.check(table(rule("a"), (wrong, "b", ())), due)
        if word is not None:
            self.check(table(rule("a"), (wrong, "b", None), (None, "c", None), last="d"), due)

    def test_right_ones(self):
        for value in (FEW, table(), table(rule(None), rule(5), rule(("x", None, (3, "y")))), table(*[rule("a")] * 24),
                      table(rule("a", ["a", "b", "c", "d"]), limits=["a", "b", "c", "d"])):
            self.check(value, None)
        for field, greatest in enumerate(GREATEST):
            for row in ((), ((0, 0),), ((greatest, greatest),), ((0, greatest),)):
                self.row(field, row, None)

    def test_rules(self):
        self.check(table(*[rule("a")] * 25), (24, None, "rules"))
        self.check(table(*[(None, None, None)] * 25), (24, None, "rules"))
        self.check((((None, None, None),) * 60, (None, None)), (24, None, "rules"))
        self.check(table(*[(None, None, None)] * 24), (0, None, "field"))

    def test_field(self):
        for wrong in ODD + (WHOLE[:5], WHOLE + WHOLE[:1], list(WHOLE), WHOLE[:5] + ([(0, 5)],), WHOLE[:5] + (None,),
                            (None,) * 6, ("",) * 6, (5,) + WHOLE[1:], ({},) + WHOLE[1:], "abcdef"):
            self.check(table((wrong, "a", ())), (0, None, "field"))
            self.check(table(rule("a"), (wrong, "a", None)), (1, None, "field"))

    def test_range(self):
        parts = ODD + ((0, 1, 2), (1, 0), (0, True), (False, 1), (0, None), ("0", "1"), (0, 1.0), [0, 1], ((0,), (1,)),
                       (-1, -2), (99999999999, 5))
        for part in parts:
            for field in (0, 3, 5):
                for row in ((part,), ((0, 0), part), (part, (0, 0)), ((-5, -1), part), ((0, 0),) * 4 + (part,)):
                    self.row(field, row, "range")

    def test_great(self):
        for field, greatest in enumerate(GREATEST):
            for part in ((-1, 0), (-1, -1), (-5, 99), (0, greatest + 1), (greatest + 1, greatest + 1), (-1, 10 ** 30)):
                for row in ((part,), ((0, 0), (0, 0), part), (part,) * 5):
                    self.row(field, row, "great")

    def test_order(self):
        for field in range(1, 6):
            for row in (((0, 5), (6, 7)), ((0, 5), (5, 7)), ((5, 6), (0, 1)), ((3, 3), (3, 3)), ((0, 9), (3, 4)),
                        ((0, 0), (2, 2), (3, 3)), ((0, 0),) * 5, ((0, 0), (2, 2), (4, 4), (6, 6), (7, 7))):
                self.row(field, row, "order")
            self.row(field, ((0, 5), (7, 7)), None)
        self.row(0, ((0, 0), (1, 1)), "order")

    def test_ranges(self):
        for field in range(1, 6):
            for many in range(7):
                row = tuple((2 * at, 2 * at) for at in range(many))
                self.row(field, row, None if many <= 4 else "ranges")

    def test_limits(self):
        for wrong in ODD + (["a"], ("a", "a"), ("a", 5), (None,), ("a", "b", "c", "d", "e"), (("a",),), ("a", ["b"]), {"a": 1}):
            if wrong == ():
                continue
            self.check((((WHOLE, "a", wrong),), ("drop", ())), (0, None, "limits"))
            self.check((((WHOLE, "a", ()), (WHOLE, "a", wrong), (None, "a", ())), ("drop", None)), (1, None, "limits"))
            self.check((((WHOLE, "a", ()),) * 3, ("drop", wrong)), (3, None, "limits"))
            self.check(((), ("drop", wrong)), (0, None, "limits"))

    def test_limits_may_have_any_texts(self):
        self.check(table(rule("a", ["", "X Y", "zzzzzzzzzzzzzzzz"]), limits=[""]), None)

    def test_fates_are_not_looked_at(self):
        for fate in ODD:
            self.check((((WHOLE, fate, ()),), (fate, ())), None)

    def test_the_first_fault_is_told(self):
        wrong = match(f1=[(5, 4)], f0=[(0, 2)])
        self.check(table((wrong, "a", None)), (0, 0, "great"))
        wrong = match(f1=[(5, 4)], f5=[(0, 70000)])
        self.check(table((wrong, "a", None)), (0, 1, "range"))
        self.check(table((WHOLE, "a", None), (wrong, "a", ())), (0, None, "limits"))


if __name__ == "__main__":
    unittest.main()
