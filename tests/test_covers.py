"""Points 312 to 314: covers, their leaves, and the checker."""

import random
import unittest

from onepolicy.boxes import parted
from onepolicy.claims import settle
from onepolicy.covers import accepts, contains, decides, is_alike, meets
from onepolicy.tables import decider, verdict
from samples import calm, put
from table_samples import (
    ALL, ODD, box, is_true, match, points, random_box, random_claim, random_table, rule, table,
)

# Of port 53, 80 to 90, and the others; b and c have one fate.
FEW = table(rule("a", f5=[(53, 53)]), rule("b", f5=[(53, 53), (80, 90)]), rule("b", f1=[(6, 6)]), last="d")


class Matches(unittest.TestCase):
    def check(self, rows, value, met, contained):
        self.assertIs(calm(self, meets, rows, value), met)
        self.assertIs(calm(self, contains, rows, value), contained)

    def test_one_field(self):
        rows = match(f3=[(10, 20), (22, 30)])
        for low, high, met, contained in (
            (10, 20, True, True), (10, 10, True, True), (20, 20, True, True), (15, 30, True, False),
            (9, 10, True, False), (9, 9, False, False), (21, 21, False, False), (20, 21, True, False),
            (21, 22, True, False), (22, 30, True, True), (22, 31, True, False), (31, 31, False, False),
            (0, 65535, True, False), (0, 9, False, False), (31, 65535, False, False),
            # Both ranges together have nearly all of it, but none alone.
            (20, 22, True, False),
        ):
            self.check(rows, box(f3=(low, high)), met, contained)

    def test_each_field_counts(self):
        for field in range(6):
            name = "f" + str(field)
            rows, high = match(**{name: [(0, 0)]}), min(ALL[field][1], 7)
            self.check(rows, box(**{name: (0, 0)}), True, True)
            self.check(rows, box(**{name: (1, high)}), False, False)
            self.check(rows, box(**{name: (0, high)}), True, False)

    def test_a_row_without_ranges(self):
        self.check(match(f2=[]), box(), False, False)

    def test_by_points(self):
        draw = random.Random(313)
        for _ in range(150):
            value, of = random_table(draw), random_box(draw)
            for rows, _, _ in value[0]:
                having = [decider((((rows, "a", ()),), ("b", ())), point) == 0 for point in points(of)]
                self.check(rows, of, any(having), all(having))


class Leaves(unittest.TestCase):
    def check(self, value, of, deciding, alike):
        """Look at which indexes leaves are right."""
        for index in range(-3, len(value[0]) + 4):
            self.assertIs(calm(self, decides, value, of, index), index == deciding, index)
            self.assertIs(calm(self, is_alike, value, of, index), index in alike, index)

    def test_some_boxes(self):
        self.check(FEW, box(f5=(53, 53)), 0, [0])
        self.check(FEW, box(f5=(80, 90)), 1, [1, 2])
        self.check(FEW, box(f5=(79, 90), f1=(6, 6)), None, [1, 2])
        self.check(FEW, box(f5=(79, 90)), None, [])
        self.check(FEW, box(f5=(0, 52), f1=(7, 255)), 3, [3])
        self.check(FEW, box(f5=(0, 52), f1=(6, 255)), None, [])
        self.check(FEW, box(f5=(53, 54)), None, [])
        self.check(FEW, box(), None, [])

    def test_no_rules(self):
        self.check(table(), box(), 0, [0])

    def test_rules_behind_one_that_contains_do_not_count(self):
        value = table(rule("a", f5=[(0, 99)]), rule("b"), rule("a", f1=[(6, 6)]), last="c")
        self.check(value, box(f5=(5, 9)), 0, [0, 2])
        self.check(value, box(f5=(100, 101)), 1, [1])
        self.check(value, box(f5=(5, 100)), None, [])

    def test_the_last_fate_counts_where_none_contains(self):
        value = table(rule("a", f5=[(0, 99)]), last="a")
        self.check(value, box(f5=(5, 100)), None, [0, 1])
        value = table(rule("a", f5=[(0, 99)]), last="b")
        self.check(value, box(f5=(5, 100)), None, [])

    def test_by_points(self):
        # A right leaf tells how all points are decided.
        draw, right = random.Random(314), 0
        for _ in range(400):
            value, of = random_table(draw, 3), random_box(draw, 4)
            for index in range(len(value[0]) + 1):
                fate = value[1][0] if index == len(value[0]) else value[0][index][1]
                if calm(self, decides, value, of, index):
                    self.assertEqual({decider(value, point) for point in points(of)}, {index})
                    right += 1
                if calm(self, is_alike, value, of, index):
                    self.assertEqual({str(verdict(value, point)[0]) for point in points(of)}, {str(fate)})
            # At a single point just one leaf "rule" is right.
            point = next(points(of))
            single = tuple((number, number) for number in point)
            found = [index for index in range(len(value[0]) + 1) if decides(value, single, index)]
            self.assertEqual(found, [decider(value, point)])
        self.assertGreater(right, 50)


class Accepting(unittest.TestCase):
    CLAIM = ("fates", FEW, box(), ["a", "b", "d"])
    COVER = [
        ("cut", 5, 53), ("cut", 1, 6), ("rule", 3), ("cut", 1, 7), ("fate", 2), ("rule", 3), ("cut", 5, 54), ("rule", 0),
        ("cut", 1, 6), ("cut", 5, 80), ("rule", 3), ("cut", 5, 91), ("rule", 1), ("rule", 3),
        ("cut", 1, 7), ("fate", 1), ("cut", 5, 80), ("fate", 3), ("cut", 5, 91), ("rule", 1), ("fate", 3),
    ]

    def check(self, claim, cover, due):
        self.assertIs(calm(self, accepts, claim, cover), due, (claim, cover))

    def test_a_right_cover(self):
        self.check(self.CLAIM, self.COVER, True)
        self.check(self.CLAIM[:3] + (["a", "b", "d", "x"],), self.COVER, True)
        for missing in ("a", "b", "d"):
            self.check(self.CLAIM[:3] + ([fate for fate in "abd" if fate != missing],), self.COVER, False)

    def test_any_single_change(self):
        for at, node in enumerate(self.COVER):
            rest = self.COVER[at + 1:]
            self.check(self.CLAIM, self.COVER[:at] + rest, False)
            self.check(self.CLAIM, self.COVER[:at] + [node, node] + rest, False)
            for other in ODD + (("cut",), ("rule",), ("rule", 0, 0), ("rule", 4), ("rule", -1), ("fate", -1), ("fate", 4),
                                ("fate", None), ("rule", "0"), ("leaf", 0), (0, "rule"), ("rule", [0]), ("cut", 5),
                                ("cut", 6, 1), ("cut", -1, 5), ("cut", "5", 5), ("cut", 5, None), ("cut", None, None),
                                ("cut", 0, 0), ("cut", 5, 0), ("cut", 5, 65536), ("cut", 5, 2 ** 40), ("cut", 5, -5),
                                ("rule", 2 ** 40), list(node), node + (0,), {"rule": 0}, ("RULE", 0), (None, 0)):
                if other != node:
                    self.check(self.CLAIM, self.COVER[:at] + [other] + rest, False)

    def test_truths_are_no_numbers(self):
        value = table(rule("a", f0=[(1, 1)]), last="b")
        claim = ("fates", value, box(), ["a", "b"])
        self.check(claim, [("cut", 0, 1), ("rule", 1), ("rule", 0)], True)
        for cover in (
            [("cut", False, 1), ("rule", 1), ("rule", 0)], [("cut", 0, True), ("rule", 1), ("rule", 0)],
            [("cut", 0, 1), ("rule", True), ("rule", 0)], [("cut", 0, 1), ("rule", 1), ("rule", False)],
            [("cut", 0, 1), ("fate", True), ("fate", 0)], [("cut", 0, 1), ("fate", 1), ("fate", False)],
            [("cut", 0, 1), ("rule", 1.0), ("rule", 0)], [("cut", 0.0, 1), ("rule", 1), ("rule", 0)],
        ):
            self.check(claim, cover, False)

    def test_anything_else(self):
        for cover in ODD + (tuple(self.COVER), {at: node for at, node in enumerate(self.COVER)}, "rule", ["rule", 0],
                            [None], [[]], [()], [("rule", 0)], self.COVER + [("rule", 0)], self.COVER + [None],
                            self.COVER[:-1], [self.COVER], iter(self.COVER)):
            if not hasattr(cover, "__next__"):
                self.check(self.CLAIM, cover, False)

    def test_a_box_is_missing_or_too_much(self):
        claim = ("fates", table(), box(), ["drop"])
        self.check(claim, [("rule", 0)], True)
        self.check(claim, [], False)
        self.check(claim, [("rule", 0), ("rule", 0)], False)
        self.check(claim, [("rule", 0), ("cut", 0, 1)], False)
        self.check(claim, [("cut", 0, 1)], False)
        self.check(claim, [("cut", 0, 1), ("rule", 0)], False)
        self.check(claim, [("cut", 0, 1), ("rule", 0), ("rule", 0)], True)

    def test_cuts_at_the_low_and_the_high_number(self):
        claim = ("fates", table(), box(f5=(10, 20)), ["drop"])
        for number, due in ((9, False), (10, False), (11, True), (19, True), (20, True), (21, False)):
            self.check(claim, [("cut", 5, number), ("fate", 0), ("fate", 0)], due)
        claim = ("fates", table(), box(f5=(10, 10)), ["drop"])
        for number in (9, 10, 11):
            self.check(claim, [("cut", 5, number), ("fate", 0), ("fate", 0)], False)

    def test_the_lower_part_is_taken_first(self):
        value = table(rule("a", f5=[(0, 9)]), last="b")
        claim = ("fates", value, box(), ["a", "b"])
        self.check(claim, [("cut", 5, 10), ("rule", 0), ("rule", 1)], True)
        self.check(claim, [("cut", 5, 10), ("rule", 1), ("rule", 0)], False)

    def test_deciders(self):
        value = table(rule("a", f5=[(0, 9)]), rule("a"))
        for of, k in ((box(f5=(0, 9)), 0), (box(f5=(10, 11)), 1)):
            for claimed in range(4):
                self.check(("decider", value, of, claimed), [("rule", k)], claimed == k)
                self.check(("never", value, of, claimed), [("rule", k)], claimed != k)
                # A leaf of fates does not tell who decides.
                for index in range(3):
                    self.check(("decider", value, of, claimed), [("fate", index)], False)
                    self.check(("never", value, of, claimed), [("fate", index)], False)
        self.check(("fates", value, box(), ["a"]), [("fate", 0)], True)
        self.check(("fates", value, box(), ["a"]), [("rule", 0)], False)

    def test_two_tables(self):
        first = table(rule("a", f5=[(0, 9)]), last="b")
        second = table(rule("b", f5=[(10, 65535)]), rule("c", f1=[(6, 6)]), last="a")
        low, high = box(f5=(0, 9), f1=(0, 5)), box(f5=(10, 20))
        for word in ("rule", "fate"):
            self.check(("alike", first, low, second), [(word, 0, 2)], True)
            self.check(("alike", first, high, second), [(word, 1, 0)], True)
            self.check(("alike", first, low, second), [(word, 0, 1)], False)
            self.check(("alike", first, low, second), [(word, 1, 2)], False)
            self.check(("alike", first, box(f5=(0, 9), f1=(6, 6)), second), [(word, 0, 1)], False)
            for wrong in ((word, 0), (word, 2, 0), (word, 0, 2, 0), (word, 0, None), (word, None, 2), (word, 0, 3), (word, 2, 2),
                          (word, 0, -1), (word, -1, 2), (word, False, 2), (word, 0, 2.0)):
                self.check(("alike", first, low, second), [wrong], False)
            for fates, due in (([], True), (["a"], True), (["b"], True), (["a", "b"], True), (["c"], True)):
                self.check(("within", first, low, fates, second), [(word, 0, 2)], due)
            lone = box(f5=(0, 9), f1=(6, 6))
            for fates, due in (([], True), (["a"], False), (["b"], True), (["a", "c"], True), (["c"], True), (["a", "b"], False)):
                self.check(("within", first, lone, fates, second), [(word, 0, 1)], due)
        claim = ("alike", first, box(f1=(7, 255)), second)
        self.check(claim, [("cut", 5, 10), ("rule", 0, 2), ("fate", 1, 0)], True)
        self.check(claim, [("fate", 0, 2)], False)

    def test_leaves_of_one_table_in_claims_of_one(self):
        self.check(("fates", table(), box(), ["drop"]), [("rule", 0, 0)], False)
        self.check(("fates", table(), box(), ["drop"]), [("fate", 0, 0)], False)

    def test_what_is_accepted_is_true(self):
        # Covers with changes, by hand or by chance, are accepted only for claims that are true.
        draw, accepted = random.Random(315), 0
        for _ in range(400):
            claim = random_claim(draw)
            found = settle(claim)
            cover = list(found[1]) if found[0] == "paper" else []
            other = random_claim(draw)
            for _ in range(6):
                if cover and draw.randrange(3):
                    at = draw.randrange(len(cover))
                    node = cover[at]
                    place = draw.randrange(1, len(node))
                    node = put(node, [place], node[place] + draw.choice([-1, 1]))
                    changed = cover[:at] + draw.choice([[node], [], [node, node]]) + cover[at + 1:]
                else:
                    changed = list(cover)
                for claimed in (claim, other):
                    if calm(self, accepts, claimed, changed):
                        self.assertTrue(all(is_true(claimed, point) for point in points(claimed[2])))
                        accepted += 1
        self.assertGreater(accepted, 100)

    def test_great_covers(self):
        claim = ("fates", table(), box(), ["drop"])
        many = 65535
        comb = []
        for number in range(1, many + 1):
            comb += [("cut", 5, number), ("fate", 0)]
        self.check(claim, comb + [("fate", 0)], True)
        self.check(claim, comb, False)
        self.check(claim, comb + [("fate", 1)], False)
        # The same boxes, the other way: the pile grows as high as the cover is long.
        pile = [("cut", 5, number) for number in range(many, 0, -1)]
        self.check(claim, pile + [("fate", 0)] * (many + 1), True)
        self.check(claim, pile + [("fate", 0)] * many, False)
        self.check(claim, pile, False)
        nest = ()
        for _ in range(5000):
            nest = (nest,)
        self.assertIs(accepts(claim, [nest]), False)
        self.assertIs(accepts(claim, [("cut", nest, 1)]), False)
        self.assertIs(accepts(claim, [("rule", nest)]), False)

    def test_parts_of_boxes(self):
        below, others = parted(box(), 5, 80)
        claim = ("fates", FEW, others, ["b", "d"])
        self.check(claim, [("cut", 1, 6), ("cut", 5, 91), ("rule", 1), ("rule", 3),
                           ("cut", 1, 7), ("fate", 1), ("cut", 5, 91), ("rule", 1), ("rule", 3)], True)
        self.check(("fates", FEW, below, ["b", "d"]), self.COVER, False)


if __name__ == "__main__":
    unittest.main()
