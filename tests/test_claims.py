"""Points 311, 315 and 316: claims, and what settles them."""

import random
import sys
import unittest

from onepolicy.boxes import GREATEST, has_point, whole_box
from onepolicy.claims import changed, differs, is_true_at, met, settle
from onepolicy.covers import accepts
from onepolicy.tables import decider, fault_of_table, verdict
from samples import calm
from table_samples import ALL, WHOLE, box, is_true, points, random_box, random_claim, random_table, rule, table

DNS = table(rule("pass", ["few"], f1=[(17, 17)], f4=[(16777216, 16777471)], f5=[(53, 53)]))


def leaves(cover, value):
    """Return the pairs of the leaves of a cover of a box and their boxes."""
    pile, found = [value], []
    for node in cover:
        value = pile.pop()
        if node[0] != "cut":
            found.append((node, value))
            continue
        (low, high), (_, field, number) = value[node[1]], node
        assert low < number <= high
        pile.append(value[:field] + ((number, high),) + value[field + 1:])
        pile.append(value[:field] + ((low, number - 1),) + value[field + 1:])
    assert not pile
    return found


def spread(many, order=1):
    """Return a table of rules that each tell single points of one field, so that many boxes are decided one by one."""
    rules = []
    for field in (2, 3, 4, 5)[::order]:
        for at in range(many):
            row = [(1000 * at + 10 * part + 5, 1000 * at + 10 * part + 5 + part) for part in range(4)]
            rules.append(rule((field, at), **{"f" + str(field): row}))
    return table(*rules)


class TrueAt(unittest.TestCase):
    def check(self, claim, point, due):
        self.assertIs(calm(self, is_true_at, claim, point), due, (claim, point))

    def test_each_word(self):
        yes, no = (0, 17, 5, 6, 16777216, 53), (0, 17, 5, 6, 16777216, 54)
        other = table(rule("pass", f1=[(17, 17)]))
        for fates, due, other_due in ((["pass"], True, False), (["drop"], False, True), ([], False, False),
                                      (["pass", "drop"], True, True)):
            self.check(("fates", DNS, box(), fates), yes, due)
            self.check(("fates", DNS, box(), fates), no, other_due)
        for k in range(4):
            self.check(("decider", DNS, box(), k), yes, k == 0)
            self.check(("decider", DNS, box(), k), no, k == 1)
            self.check(("never", DNS, box(), k), yes, k != 0)
            self.check(("never", DNS, box(), k), no, k != 1)
        self.check(("alike", DNS, box(), other), yes, True)
        self.check(("alike", DNS, box(), other), no, False)
        self.check(("alike", DNS, box(), other), (0, 6) + yes[2:], True)
        for fates, due in ((["pass"], True), (["drop"], False), ([], True), (["pass", "drop"], True), (["x"], True)):
            self.check(("within", DNS, box(), fates, other), yes, True)
            self.check(("within", DNS, box(), fates, other), no, due)

    def test_by_points(self):
        draw = random.Random(311)
        for _ in range(200):
            claim = random_claim(draw)
            for point in list(points(claim[2]))[:40]:
                self.check(claim, point, is_true(claim, point))


class Settling(unittest.TestCase):
    def check(self, claim, least):
        """Look at what settles a claim; least is the least point at which it is not true, or None."""
        found = calm(self, settle, claim)
        self.assertIs(type(found), tuple)
        if least is not None:
            self.assertEqual(found, ("contrary", least), claim)
            self.assertFalse(is_true_at(claim, least))
            return
        self.assertEqual((found[0], type(found[1])), ("paper", list), claim)
        self.assertIs(accepts(claim, found[1]), True, claim)

    def test_the_example(self):
        self.check(("fates", DNS, whole_box(), ["pass"]), (0, 0, 0, 0, 0, 0))
        self.assertEqual(met(DNS), [(0, 17, 0, 0, 16777216, 53), (0, 0, 0, 0, 0, 0)])

    def test_each_word(self):
        of = box(f1=(17, 17), f4=(16777216, 16777300))
        self.check(("fates", DNS, of, ["drop", "pass"]), None)
        self.check(("fates", DNS, of, ["drop"]), (0, 17, 0, 0, 16777216, 53))
        self.check(("fates", DNS, of, ["pass"]), (0, 17, 0, 0, 16777216, 0))
        self.check(("decider", DNS, box(f1=(17, 17), f4=(16777216, 16777300), f5=(53, 53)), 0), None)
        self.check(("decider", DNS, of, 0), (0, 17, 0, 0, 16777216, 0))
        self.check(("decider", DNS, of, 1), (0, 17, 0, 0, 16777216, 53))
        self.check(("decider", DNS, of, 2), (0, 17, 0, 0, 16777216, 0))
        self.check(("never", DNS, of, 0), (0, 17, 0, 0, 16777216, 53))
        self.check(("never", DNS, of, 1), (0, 17, 0, 0, 16777216, 0))
        self.check(("never", DNS, of, 2), None)
        self.check(("never", DNS, box(f1=(6, 16)), 0), None)
        other = table(rule("pass", f1=[(17, 17)]))
        self.check(("alike", DNS, box(), DNS), None)
        self.check(("alike", DNS, box(), other), (0, 17, 0, 0, 0, 0))
        self.check(("alike", DNS, box(f5=(53, 53), f4=(16777216, 16777471)), other), None)
        self.check(("within", DNS, box(), ["pass"], other), None)
        self.check(("within", other, box(), ["pass"], DNS), (0, 17, 0, 0, 0, 0))
        self.check(("within", DNS, box(), ["drop"], other), (0, 17, 0, 0, 0, 0))
        self.check(("within", DNS, box(), [], other), None)

    def test_against_all_points_of_small_boxes(self):
        draw, told = random.Random(315), {}
        for _ in range(1500):
            claim = random_claim(draw)
            wrong = [point for point in points(claim[2]) if not is_true(claim, point)]
            self.check(claim, min(wrong) if wrong else None)
            told[claim[0], bool(wrong)] = told.get((claim[0], bool(wrong)), 0) + 1
        self.assertEqual(len(told), 10)
        self.assertGreater(min(told.values()), 30)

    def test_whole_boxes(self):
        draw = random.Random(316)
        for _ in range(400):
            claim = random_claim(draw)
            claim = claim[:2] + (whole_box(),) + claim[3:]
            found = settle(claim)
            if found[0] == "paper":
                self.check(claim, None)
            else:
                self.assertFalse(is_true_at(claim, found[1]))

    def test_the_least_of_many_contraries(self):
        # The fields count in their order, whatever the order of the rules is.
        rules = [rule("x", f5=[(7, 7)]), rule("x", f0=[(1, 1)]), rule("x", f3=[(9, 9)], f5=[(0, 3)]), rule("x", f2=[(4, 4)])]
        for order in (rules, rules[::-1], rules[2:] + rules[:2]):
            value = table(*order)
            self.check(("fates", value, box(), ["drop"]), (0, 0, 0, 0, 0, 7))
            self.check(("fates", value, box(f5=(8, 9)), ["drop"]), (0, 0, 4, 0, 0, 8))
            self.check(("fates", value, box(f5=(0, 6)), ["drop"]), (0, 0, 0, 9, 0, 0))
            self.check(("fates", value, box(f5=(8, 9), f2=(5, 9)), ["drop"]), (1, 0, 5, 0, 0, 8))

    def test_ranges_at_the_ends_of_fields(self):
        for field, greatest in enumerate(GREATEST):
            for low, high in ((0, 0), (greatest, greatest), (0, greatest), (0, greatest - 1), (1, greatest)):
                value = table((WHOLE[:field] + (((low, high),),) + WHOLE[field + 1:], "a", ()))
                self.assertIsNone(fault_of_table(value))
                self.check(("fates", value, box(), ["a", "drop"]), None)
                least = (0,) * field + (low,) + (0,) * (5 - field)
                self.check(("never", value, box(), 0), least)
                if (low, high) != (0, greatest):
                    least = (0,) * field + (0 if low > 0 else high + 1,) + (0,) * (5 - field)
                    self.check(("decider", value, box(), 0), least)

    def test_a_box_of_one_point(self):
        draw = random.Random(317)
        for _ in range(100):
            claim = random_claim(draw)
            point = tuple(low for low, high in claim[2])
            claim = claim[:2] + (tuple((number, number) for number in point),) + claim[3:]
            self.check(claim, None if is_true(claim, point) else point)

    def test_claims_as_great_as_they_may_be(self):
        # 15 ranges in each of four fields: 31 to the fourth is 923521.
        rules = []
        for field in (5, 4, 3, 2):
            for at in range(4):
                row = [(1000 * at + 10 * part + 5, 1000 * at + 10 * part + 6) for part in range(4 if at < 3 else 3)]
                rules.append(rule((field, at), **{"f" + str(field): row}))
        value, fates = table(*rules), [row[1] for row in rules]
        self.check(("fates", value, box(), fates + ["drop"]), None)
        self.check(("never", value, box(), 17), None)
        self.check(("fates", value, box(), fates), (0, 0, 0, 0, 0, 0))
        self.check(("fates", value, box(), fates[:-1] + ["drop"]), (0, 0, 3005, 0, 0, 0))
        self.check(("alike", value, box(), table(*(rules[:-1] + [rule("x")]))), (0, 0, 0, 0, 0, 0))

    def test_rules_that_cross_in_all_fields(self):
        # 7 ranges in each of five fields: 15 to the fifth is 759375.
        draw = random.Random(318)
        for _ in range(20):
            rules = []
            for at in range(7):
                rows = [((0, 1),)]
                for greatest in GREATEST[1:]:
                    low, high = sorted([draw.randint(0, 255), draw.randint(0, 255)])
                    rows.append(((low, high),))
                rules.append((tuple(rows), at, ()))
            value = table(*rules)
            self.check(("fates", value, box(), list(range(7)) + ["drop"]), None)
            for index, point in enumerate(met(value)):
                self.check(("never", value, box(), index), point)

    def test_depth(self):
        # No more depth is needed for many cuts than for a few.
        depth, limit = 0, sys.getrecursionlimit()
        frame = sys._getframe()
        while frame:
            depth, frame = depth + 1, frame.f_back
        value = spread(3)
        claim = ("never", value, box(), 20)
        try:
            sys.setrecursionlimit(depth + 60)
            found = settle(claim)
            right = accepts(claim, found[1])
        finally:
            sys.setrecursionlimit(limit)
        self.assertTrue(right)

    def test_answers_share_nothing(self):
        claim = ("fates", DNS, box(), ["drop", "pass"])
        settle(claim)[1].clear()
        self.assertTrue(settle(claim)[1])
        met(DNS).clear()
        self.assertEqual(len(met(DNS)), 2)


class Met(unittest.TestCase):
    def test_least_points(self):
        value = table(rule("a", f5=[(80, 90)], f0=[(1, 1)]), rule("b", f5=[(85, 86)], f0=[(1, 1)]), rule("c", f1=[(6, 6)]),
                      rule("d", f5=[]), rule("e", f2=[(0, 4294967295)], f3=[(0, 65534)]))
        due = [(1, 0, 0, 0, 0, 80), None, (0, 6, 0, 0, 0, 0), None, (0, 0, 0, 0, 0, 0), (0, 0, 0, 65535, 0, 0)]
        self.assertEqual(calm(self, met, value), due)
        self.assertEqual(met(table()), [(0,) * 6])
        self.assertEqual(met(table(rule("a"))), [(0,) * 6, None])

    def test_by_claims(self):
        draw = random.Random(319)
        for _ in range(300):
            value = random_table(draw)
            found = calm(self, met, value)
            self.assertEqual(len(found), len(value[0]) + 1)
            for index, point in enumerate(found):
                due = settle(("never", value, whole_box(), index))
                if point is None:
                    self.assertEqual(due[0], "paper")
                else:
                    self.assertEqual(due, ("contrary", point))
                    self.assertEqual(decider(value, point), index)

    def test_by_points(self):
        # All numbers of these tables are small: so is each least point.
        draw = random.Random(320)
        for _ in range(60):
            value = random_table(draw, 4, 1)
            value = (tuple((rule[0][:3] + (((0, 65535),),) + rule[0][4:],) + rule[1:] for rule in value[0]), value[1])
            least = {}
            for point in points(((0, 1), (0, 3), (0, 3), (0, 0), (0, 3), (0, 3))):
                least.setdefault(decider(value, point), point)
            self.assertEqual(met(value), [least.get(index) for index in range(len(value[0]) + 1)])


class Differences(unittest.TestCase):
    def test_by_points(self):
        draw, unlike = random.Random(321), 0
        for _ in range(500):
            value, other, of = random_table(draw), random_table(draw), random_box(draw)
            wrong = [point for point in points(of) if verdict(value, point)[0] != verdict(other, point)[0]]
            found = calm(self, differs, value, other, of)
            self.assertEqual(found, min(wrong) if wrong else None)
            unlike += bool(wrong)
        self.assertTrue(100 < unlike < 480, unlike)

    def test_limits_are_no_fates(self):
        self.assertIsNone(differs(table(rule("a", ["x"])), table(rule("a")), box()))
        self.assertEqual(differs(table(rule("a", f5=[(9, 9)])), table(), box()), (0, 0, 0, 0, 0, 9))

    def test_covers_of_changes(self):
        draw = random.Random(322)
        for _ in range(300):
            value, other, of = random_table(draw), random_table(draw), random_box(draw)
            cover = calm(self, changed, value, other, of)
            found = leaves(cover, of)
            for node, part in found:
                self.assertEqual((node[0], len(node)), ("fate", 3))
                for point in points(part):
                    self.assertEqual((self.fate(value, node[1]), self.fate(other, node[2])),
                                     (verdict(value, point)[0], verdict(other, point)[0]))
            self.assertEqual(sum(has_point(part, point) for node, part in found for point in points(of)),
                             len(list(points(of))))
            # With all fates in the list, the claim agrees with any leaves that are right.
            fates = [self.fate(one, index) for one in (value, other) for index in range(len(one[0]) + 1)]
            self.assertIs(accepts(("within", value, of, fates, other), cover), True)

    def test_of_whole_boxes(self):
        other = table(rule("pass", f1=[(17, 17)]))
        found = leaves(changed(DNS, other, whole_box()), ALL)
        told = {(self.fate(DNS, node[1]), self.fate(other, node[2])) for node, part in found}
        self.assertEqual(told, {("pass", "pass"), ("drop", "pass"), ("drop", "drop")})
        self.assertEqual(changed(DNS, DNS, box(f1=(6, 6))), [("fate", 1, 1)])

    def fate(self, value, index):
        return value[1][0] if index == len(value[0]) else value[0][index][1]


if __name__ == "__main__":
    unittest.main()
