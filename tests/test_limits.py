"""Points 400 to 408: limits."""

import copy
import random
import unittest

from onepolicy.limits import ask, fault_of_limits, is_name, kept_keys, key_of, swept, turned
from samples import MOST, calm
from table_samples import ODD

ASKER = ("udp", 0x08080808, 0x0A000005, "web")
FEW = ("few", "bucket", (1, 10, 2), ("outside",))
MUCH = ("much", "window", (5, 10), ())
ONCE = ("once", "open", (1,), ())
WORDS = ("outside", "inside", "service", "kind") + tuple("outside " + str(bits) for bits in range(1, 32))


def who(outside=9, kind="udp"):
    return (kind, outside, None, None)


def bucket(rate, parts, room, key=("outside",), name="few"):
    return (name, "bucket", (rate, parts, room), key)


def window(most, width, key=("outside",), name="much"):
    return (name, "window", (most, width), key)


def held(most, key=("outside",), name="once"):
    return (name, "open", (most,), key)


class Names(unittest.TestCase):
    def test_names(self):
        for name in ("a", "abcdefghij", "zzzzzzzzzz"):
            self.assertIs(calm(self, is_name, name), True)
        for name in ODD + ("abcdefghijk", "A", "a1", "a b", "a-", "\u00e4", "a\n"):
            self.assertIs(calm(self, is_name, name), name == "x" or name == "cut", name)


class Faults(unittest.TestCase):
    def check(self, rows, due):
        self.assertEqual(calm(self, fault_of_limits, tuple(rows)), due, rows)

    def row(self, row, word):
        """Look at a limit alone, and behind and ahead of others."""
        self.check((row,), word and (0, word))
        other = ("b", "open", (1,), ())
        self.check((other, row, (None, None, None, None)), (1, word) if word else (2, "name"))

    def test_right_ones(self):
        self.check((), None)
        self.check((FEW, MUCH, ONCE), None)
        self.check([bucket(1, 1, 1, (), "a" * (at + 1)) for at in range(8)] + [bucket(1, 1, 1, (), "b" * (at + 1))
                                                                             for at in range(8)], None)

    def test_limits(self):
        names = ["a" * (at + 1) for at in range(9)] + ["b" * (at + 1) for at in range(9)]
        rows = [held(1, (), name) for name in names]
        self.check(rows[:16], None)
        self.check(rows[:17], (16, "limits"))
        self.check([(None, None, None, None)] * 17, (16, "limits"))
        self.check([(None, None, None, None)] * 16, (0, "name"))

    def test_name(self):
        for name in ODD + ("Few", "abcdefghijk", "few1"):
            if name not in ("x", "cut"):
                self.row((name, None, None, None), "name")
        self.row(("abcdefghij", "open", (1,), ()), None)

    def test_twice(self):
        self.check((FEW, MUCH, ("few", None, None, None)), (2, "twice"))
        self.check((FEW, MUCH, FEW), (2, "twice"))

    def test_kind(self):
        for kind in ODD + ("buckets", "Open", ("open",), ["open"]):
            self.row(("a", kind, None, None), "kind")
            self.row(("a", kind, (1, 1, 1), ()), "kind")

    def test_numbers(self):
        for kind, least in (("bucket", (0, 1, 0)), ("window", (0, 1)), ("open", (0,))):
            most = (1000000,) * len(least)
            for numbers in (least, most):
                self.row(("a", kind, numbers, ()), None)
                for at in range(len(numbers)):
                    for number in (least[at] - 1, 1000001, True, False, None, "1", 1.0, (1,), [1]):
                        self.row(("a", kind, numbers[:at] + (number,) + numbers[at + 1:], None), "numbers")
                self.row(("a", kind, list(numbers), ()), "numbers")
                self.row(("a", kind, numbers + (1,), ()), "numbers")
                self.row(("a", kind, numbers[:-1], ()), "numbers")
            for numbers in ODD:
                if numbers != (0,):
                    self.row(("a", kind, numbers, None), "numbers")

    def test_key(self):
        for word in WORDS:
            self.row(("a", "open", (1,), (word,)), None)
        self.row(("a", "open", (1,), WORDS), None)
        for key in ODD + (("outside 0",), ("outside 32",), ("outside 01",), ("outside  1",), ("outside 1 ",), ("outside1",),
                          ("Outside",), ("outside", "outside"), ("kind", "outside 3", "kind"), ["outside"], ("outside", None),
                          ("outside", 3), (("outside",),), ("outside", []), "outside", ("",), ("outside -1",)):
            if key != ():
                self.row(("a", "open", (1,), key), "key")


class Keys(unittest.TestCase):
    def test_words(self):
        for key, due in (((), ()), (("kind",), ("udp",)), (("inside", "outside"), (0x0A000005, 0x08080808)),
                         (("service", "kind"), ("web", "udp")), (("outside 8", "outside 31", "outside 1"), (8, 0x04040404, 0)),
                         (("outside 5", "outside 3"), (1, 0))):
            self.assertEqual(calm(self, key_of, ("a", "open", (1,), key), ASKER), due)

    def test_none(self):
        asker = ("request", None, None, None)
        self.assertEqual(key_of(("a", "open", (1,), WORDS), asker), (None,) * 3 + ("request",) + (None,) * 31)

    def test_the_highest_bits(self):
        for address in (0, 1, MOST - 1, 0x80000000, 0xCB007101):
            for bits in range(1, 32):
                due = address // 2 ** (32 - bits)
                row = ("a", "open", (1,), ("outside " + str(bits),))
                self.assertEqual(key_of(row, who(address)), (due,))


class Case(unittest.TestCase):
    def let(self, rows, states, moment, cost=1, asker=who(), holds=()):
        found = calm(self, ask, tuple(rows), states, list(holds), moment, asker, cost)
        self.assertEqual(found[0], "let", found)
        self.assertEqual((type(found), len(found), type(found[2])), (tuple, 3, list))
        return found[1]

    def refused(self, rows, states, moment, due, cost=1, asker=who(), holds=()):
        found = calm(self, ask, tuple(rows), states, list(holds), moment, asker, cost)
        self.assertEqual(found, ("limited",) + due)


class Buckets(Case):
    def test_the_example(self):
        rows = (FEW, ONCE)
        word, states, adds = calm(self, ask, rows, {}, [], 100, who(), 2)
        self.assertEqual((word, adds), ("let", [(ONCE, ())]))
        self.refused(rows, states, 105, ("few", (100, 2), 110))
        self.refused(rows, states, 120, ("once", ("open", 1), None), holds=adds)

    def test_just_at_the_cost_and_one_part_below(self):
        rows = [bucket(3, 7, 5)]
        states = self.let(rows, {}, 100, 5)
        # Behind t ticks 3 t of 7 parts have come in: at 3 there are 9, at 2 there are 6.
        self.refused(rows, states, 102, ("few", (100, 5), 103))
        self.let(rows, states, 103)
        self.refused(rows, states, 104, ("few", (100, 5), 105), 2)
        self.let(rows, states, 105, 2)
        self.refused(rows, states, 111, ("few", (100, 5), 112), 5)
        self.let(rows, states, 112, 5)

    def test_full_again(self):
        rows = [bucket(1, 10, 2)]
        states = self.let(rows, {}, 100, 1)
        # At 110 it is full again: what was let before does not count.
        states = self.let(rows, states, 110, 2)
        self.refused(rows, states, 119, ("few", (110, 2), 120))
        states = self.let(rows, states, 120, 1)
        self.refused(rows, states, 120, ("few", (110, 3), 130))
        states = self.let(rows, states, 130, 1)
        self.refused(rows, states, 149, ("few", (110, 4), 150), 2)
        states = self.let(rows, states, 150, 1)
        # It was not full at 140, but at 150.
        self.refused(rows, states, 151, ("few", (150, 1), 160), 2)
        self.let(rows, states, 160, 2)

    def test_it_is_full_up_to_the_moment_of_a_request(self):
        rows = [bucket(1, 10, 2)]
        states = self.let(rows, {}, 100, 1)
        states = self.let(rows, states, 115, 1)
        states = self.let(rows, states, 115, 1)
        self.refused(rows, states, 116, ("few", (115, 2), 125))

    def test_refused_when_full(self):
        for room in (0, 1, 5):
            self.refused([bucket(9, 1, room)], {}, 77, ("few", (77, 0), ("never",)), room + 1)
        states = self.let([bucket(1, 10, 5)], {}, 100, 5)
        self.refused([bucket(1, 10, 5)], states, 149, ("few", (100, 5), ("never",)), 6)
        self.refused([bucket(1, 10, 5)], states, 150, ("few", (150, 0), ("never",)), 6)

    def test_without_a_rate(self):
        rows = [bucket(0, 1, 3)]
        states = self.let(rows, {}, 5, 2)
        self.refused(rows, states, 10 ** 9, ("few", (5, 2), ("never",)), 2)
        states = self.let(rows, states, 10 ** 9, 1)
        self.refused(rows, states, 10 ** 9 + 1, ("few", (5, 3), ("never",)))

    def test_keys_are_apart(self):
        rows = [bucket(1, 10, 2)]
        states = self.let(rows, {}, 100, 2)
        self.let(rows, states, 100, 2, who(10))
        self.refused(rows, states, 100, ("few", (100, 2), 120), 2)

    def test_great_numbers(self):
        rows = [bucket(1000000, 1000000, 1000000)]
        states = {}
        for at in range(1000):
            states = self.let(rows, states, 5, 1000)
        self.refused(rows, states, 5, ("few", (5, 1000000), 1005), 1000)
        rows = [bucket(1, 1000000, 1)]
        states = self.let(rows, {}, 5)
        self.refused(rows, states, 6, ("few", (5, 1), 1000005))

    def test_by_levels(self):
        # The levels reckoned tick by tick, in parts.
        draw = random.Random(403)
        for _ in range(150):
            rate, parts, room = draw.randint(0, 7), draw.randint(1, 9), draw.randint(0, 9)
            rows, states = [bucket(rate, parts, room, ())], {}
            level, moment, since, costs = room * parts, 0, 0, 0
            for _ in range(40):
                for _ in range(draw.choice([0, 0, 1, 1, 2, 7])):
                    moment, level = moment + 1, min(level + rate, room * parts)
                if level == room * parts:
                    since, costs = moment, 0
                cost = draw.randint(1, 4)
                if level >= cost * parts:
                    states = self.let(rows, states, moment, cost)
                    level, costs = level - cost * parts, costs + cost
                    continue
                again, rising = moment, level
                while rising < cost * parts and cost <= room and rate:
                    again, rising = again + 1, min(rising + rate, room * parts)
                again = again if cost <= room and rate else ("never",)
                self.refused(rows, states, moment, ("few", (since, costs), again), cost)


class Windows(Case):
    def test_the_last_moment_of_a_window(self):
        rows = [window(5, 10)]
        states = self.let(rows, {}, 100, 5)
        self.refused(rows, states, 100, ("much", (91, 5), 110))
        self.refused(rows, states, 109, ("much", (100, 5), 110))
        self.let(rows, states, 110, 5)

    def test_costs_at_many_moments(self):
        rows = [window(5, 10)]
        states = self.let(rows, {}, 100, 2)
        states = self.let(rows, states, 103, 1)
        states = self.let(rows, states, 103, 1)
        self.refused(rows, states, 104, ("much", (95, 4), 110), 2)
        self.refused(rows, states, 104, ("much", (95, 4), 110), 3)
        self.refused(rows, states, 104, ("much", (95, 4), 113), 4)
        states = self.let(rows, states, 105, 1)
        self.refused(rows, states, 105, ("much", (96, 5), 115), 5)
        self.refused(rows, states, 111, ("much", (102, 3), 113), 4)
        self.let(rows, states, 111, 2)

    def test_below_0(self):
        rows = [window(5, 10)]
        states = self.let(rows, {}, 0, 5)
        self.refused(rows, states, 3, ("much", (-6, 5), 10))
        self.refused(rows, {}, 0, ("much", (-9, 0), ("never",)), 6)

    def test_narrow_ones_and_none(self):
        rows = [window(2, 1)]
        states = self.let(rows, {}, 7, 2)
        self.refused(rows, states, 7, ("much", (7, 2), 8))
        self.let(rows, states, 8, 2)
        self.refused([window(0, 1)], {}, 7, ("much", (7, 0), ("never",)))
        self.refused([window(0, 1000000)], {}, 7, ("much", (7 - 999999, 0), ("never",)))

    def test_by_sums(self):
        draw = random.Random(404)
        for _ in range(150):
            most, width = draw.randint(0, 8), draw.randint(1, 12)
            rows, states, moment, done = [window(most, width, ())], {}, 0, []
            for _ in range(40):
                moment, cost = moment + draw.choice([0, 0, 1, 1, 2, 5, 20]), draw.randint(1, 4)

                def costs_at(at):
                    return sum(let for then, let in done if at - width < then <= at)

                if costs_at(moment) + cost <= most:
                    states = self.let(rows, states, moment, cost)
                    done.append((moment, cost))
                    continue
                again = ("never",)
                if cost <= most:
                    again = next(at for at in range(moment + 1, moment + 99) if costs_at(at) + cost <= most)
                told = (moment - width + 1, costs_at(moment))
                self.refused(rows, states, moment, ("much", told, again), cost)


class Opened(Case):
    def test_who_holds_the_same(self):
        row = held(2)
        mine, other = (row, (9,)), (row, (10,))
        like = (held(3), (9,))
        for holds, many in (([], 0), ([mine], 1), ([other] * 5, 0), ([mine, like, other, (held(2, ("kind",)), (9,))], 1)):
            found = calm(self, ask, (row,), {}, holds, 5, who(), 1)
            self.assertEqual(found, ("let", {}, [mine]))
            self.refused([row], {}, 5, ("once", ("open", 2), None), holds=[mine] * (2 - many) + holds)
        self.refused([row], {}, 5, ("once", ("open", 4), None), holds=[mine] * 4)

    def test_costs_do_not_count(self):
        self.assertEqual(ask((held(1),), {}, [], 5, who(), 1000), ("let", {}, [(held(1), (9,))]))

    def test_none_at_all(self):
        self.refused([held(0)], {}, 5, ("once", ("open", 0), ("never",)))

    def test_many_in_order(self):
        rows = (held(1, (), "a"), FEW, held(1, ("kind",), "b"))
        self.assertEqual(calm(self, ask, rows, {}, [], 5, who(), 1)[2], [(rows[0], ()), (rows[2], ("udp",))])


class Rows(Case):
    def test_all_take_or_none_does(self):
        rows = [bucket(1, 10, 4, (), "a"), window(5, 10, (), "b"), held(1, (), "c")]
        states = self.let(rows, {}, 100, 3)
        self.assertEqual(sorted(states), ["a", "b"])
        before = copy.deepcopy(states)
        # The window lets it, the bucket does not: the window is not charged.
        self.refused(rows, states, 100, ("a", (100, 3), 110), 2)
        self.assertEqual(states, before)
        self.refused(rows, states, 109, ("a", (100, 3), 110), 2)
        self.refused(rows, states, 110, ("c", ("open", 1), None), 2, holds=[(rows[2], ())])
        states = self.let(rows, states, 110, 2)
        self.refused(rows[1:], states, 110, ("b", (101, 2), 120), 4)

    def test_the_first_one_is_told(self):
        rows = [window(5, 10, (), "b"), bucket(1, 10, 4, (), "a")]
        states = self.let(rows, {}, 100, 4)
        self.refused(rows, states, 101, ("b", (92, 4), 130), 3)
        self.refused(rows[::-1], states, 101, ("a", (100, 4), 130), 3)
        self.refused(rows, states, 101, ("b", (92, 4), 120), 2)
        self.refused(rows, states, 101, ("a", (100, 4), 110), 1)

    def test_the_greatest_of_when_to_ask_again(self):
        rows = [window(5, 50, (), "b"), bucket(1, 10, 4, (), "a")]
        states = self.let(rows, {}, 100, 4)
        self.refused(rows, states, 101, ("b", (52, 4), 150), 3)

    def test_never_is_told_ahead_of_none(self):
        full, holds = held(1, (), "c"), [(held(1, (), "c"), ())]
        some = bucket(1, 10, 4, (), "a")
        states = self.let([some], {}, 100, 4)
        self.refused([some, full], states, 101, ("a", (100, 4), None), holds=holds)
        self.refused([full, some], states, 101, ("c", ("open", 1), None), holds=holds)
        self.refused([full, some], states, 101, ("c", ("open", 1), ("never",)), 5, holds=holds)
        self.refused([some, full, held(0, (), "d")], states, 101, ("a", (100, 4), ("never",)), holds=holds)
        self.refused([some, window(0, 5, (), "e")], states, 101, ("a", (100, 4), ("never",)))
        self.refused([some, bucket(0, 5, 0, (), "e")], states, 101, ("a", (100, 4), ("never",)))

    def test_limits_that_are_not_asked_stay(self):
        states = self.let([FEW, MUCH], {}, 100, 2)
        found = self.let([MUCH], states, 1000, 1)
        self.assertEqual(found["few"], states["few"])
        self.assertIsNot(found["few"], states["few"])
        self.assertEqual(sorted(found), ["few", "much"])
        self.assertEqual(calm(self, ask, (), states, [], 1000, who(), 1), ("let", states, []))

    def test_no_rows(self):
        self.assertEqual(calm(self, ask, (), {}, [], 5, who(), 1), ("let", {}, []))

    def test_nothing_is_shared(self):
        states = self.let([FEW, MUCH], {}, 100, 1)
        before = copy.deepcopy(states)
        for found in (self.let([FEW], states, 100, 1), swept((FEW, MUCH), states, 101), turned(states, (FEW, MUCH), (FEW, MUCH))):
            for name in list(found):
                found[name].clear()
            found.clear()
            self.assertEqual(states, before)


class Forgetting(Case):
    def test_what_is_not_kept(self):
        rows = (bucket(1, 10, 2, (), "a"), window(5, 10, (), "b"), held(1, (), "c"))
        states = self.let(rows, {}, 100, 1)
        for moment, due in ((100, (1, 1)), (109, (1, 1)), (110, (0, 0))):
            self.assertEqual(calm(self, kept_keys, rows, states, moment), {"a": due[0], "b": due[1]})
            self.assertEqual(sorted(calm(self, swept, rows, states, moment)), ["a", "b"] if due == (1, 1) else [])
        states = self.let(rows, states, 105, 1)
        for moment, due in ((114, (1, 1)), (115, (1, 0)), (119, (1, 0)), (120, (0, 0))):
            self.assertEqual(kept_keys(rows, states, moment), {"a": due[0], "b": due[1]})

    def test_what_is_forgotten_is_as_new(self):
        rows = (FEW, MUCH)
        states = self.let(rows, {}, 100, 2)
        self.assertEqual(swept(rows, states, 120), {})
        self.assertEqual(swept(rows, {}, 120), {})
        self.assertEqual(kept_keys(rows, {}, 120), {"few": 0, "much": 0})
        found = self.let(rows, states, 120, 2)
        self.assertEqual(found, self.let(rows, {}, 120, 2))

    def test_states_of_others_are_not_told(self):
        states = self.let((FEW, MUCH), {}, 100, 2)
        self.assertEqual(list(calm(self, swept, (MUCH,), states, 100)), ["much"])
        self.assertEqual(calm(self, kept_keys, (MUCH, ONCE), states, 100), {"much": 1})
        self.assertEqual(swept((ONCE,), states, 100), {})

    def test_what_is_opened_has_no_state(self):
        states = self.let((FEW,), {}, 100, 2)
        self.assertEqual(swept((held(1, (), "few"),), states, 100), {})

    def test_what_was_let_at_a_moment_is_kept_as_one(self):
        states = self.let((MUCH,), {}, 100, 3)
        apart = self.let((MUCH,), self.let((MUCH,), {}, 100, 1), 100, 2)
        self.assertEqual(apart, states)

    def test_sweeping_changes_no_answer(self):
        draw = random.Random(407)
        rows = (bucket(2, 5, 3), window(4, 7), bucket(1, 3, 2, ("kind",), "other"))
        for _ in range(60):
            states, moment = {}, 0
            for _ in range(30):
                moment += draw.choice([0, 1, 2, 9])
                asker, cost = who(draw.randint(1, 3), draw.choice(["udp", "tcp"])), draw.randint(1, 3)
                found = ask(rows, states, [], moment, asker, cost)
                again = ask(rows, swept(rows, states, moment), [], moment, asker, cost)
                self.assertEqual(found, again)
                states = found[1] if found[0] == "let" else states

    def test_512_keys_and_one_more(self):
        for row in (bucket(1, 10, 2), window(2, 20)):
            states = {}
            for key in range(511):
                states = ask((row,), states, [], 100, who(key), 1)[1]
            states = self.let([row], states, 100, 2, who(511))
            self.assertEqual(kept_keys((row,), states, 100), {row[0]: 512})
            self.refused([row], states, 100, (row[0], "keys", None), asker=who(512))
            self.refused([row], states, 100, (row[0], "keys", None), 2, who(512))
            self.refused([row], states, 100, (row[0], "keys", ("never",)), 3, who(512))
            # Who has a key is served, and told, as ever.
            self.let([row], states, 100, 1, who(5))
            self.refused([row], states, 100, (row[0], (100, 2) if row[1] == "bucket" else (81, 2), 110 if row[1] == "bucket"
                                              else 120), asker=who(511))
            # As soon as a key is forgotten, another one has room.
            moment = 110 if row[1] == "bucket" else 120
            self.refused([row], states, moment - 1, (row[0], "keys", None), asker=who(512))
            self.let([row], states, moment, 1, who(512))

    def test_keys_of_a_bucket_without_a_rate(self):
        row, states = bucket(0, 1, 2), {}
        for key in range(512):
            states = ask((row,), states, [], 100, who(key), 1)[1]
        self.refused([row], states, 10 ** 6, ("few", "keys", None), 2, who(512))
        self.refused([row], states, 10 ** 6, ("few", "keys", ("never",)), 3, who(512))
        other = bucket(1, 10, 1, (), "other")
        states = ask((other,), states, [], 10 ** 6, who(1), 1)[1]
        self.refused([other, row], states, 10 ** 6, ("other", (10 ** 6, 1), None), asker=who(512))
        self.refused([other, row], states, 10 ** 6, ("other", (10 ** 6, 1), ("never",)), 2, who(512))
        self.refused([other, row], states, 10 ** 6, ("other", (10 ** 6, 1), 10 ** 6 + 10), asker=who(5))

    def test_each_limit_has_keys_of_its_own(self):
        rows, states = (bucket(1, 100, 9, name="a"), bucket(1, 100, 9, name="b")), {}
        for key in range(512):
            states = ask(rows[:1], states, [], 100, who(key), 1)[1]
        states = self.let(rows[1:], states, 100, 1, who(600))
        self.assertEqual(kept_keys(rows, states, 100), {"a": 512, "b": 1})
        self.refused(rows, states, 100, ("a", "keys", None), asker=who(600))


class Versions(Case):
    def test_limits_that_stand_whole_in_both(self):
        first, other = bucket(1, 10, 2, name="a"), window(5, 10, name="b")
        states = self.let([first, other], {}, 100, 2)
        self.assertEqual(calm(self, turned, states, (first, other), (first, other)), states)
        self.assertEqual(turned(states, (first, other), (other, first, ONCE)), states)
        for changed in (bucket(2, 10, 2, name="a"), bucket(1, 10, 2, ("kind",), "a"), window(10, 2, name="a"),
                        bucket(1, 10, 2, name="c")):
            found = calm(self, turned, states, (first, other), (changed, other))
            self.assertEqual(found, {"b": states["b"]})
            self.let([changed], found, 100, 2)
        self.assertEqual(turned(states, (first, other), ()), {})
        self.assertEqual(turned({}, (first, other), (first, other)), {})

    def test_what_holds_goes_on(self):
        row = held(1)
        self.refused([row], turned({}, (row,), ()), 5, ("once", ("open", 1), None), holds=[(row, (9,))])


if __name__ == "__main__":
    unittest.main()
