"""Points 700 to 702: policies as values, and each fault of one, alone and with a second fault."""

import unittest

from onepolicy.versions import KEYS, fault_of_policy, policy_of, values_of_policy
from edge_samples import DNS, ERRORS, LIMITS, POOL, RULES, WEB, ground, policy, route
from flow_samples import TIMES
from samples import OWN, PC, SERVER, calm, put
from table_samples import ODD, WHOLE

DROP = (("drop",), ())


class Values(unittest.TestCase):
    def test_keys(self):
        self.assertEqual(KEYS, ("rules", "services", "limits", "times", "room", "routes", "headers", "errors", "trusted", "keep"))

    def test_there_and_back(self):
        value = policy()
        values = calm(self, values_of_policy, value)
        self.assertEqual(values, tuple(value[key] for key in KEYS))
        found = calm(self, policy_of, values)
        self.assertEqual((found, type(found), list(found)), (value, dict, list(KEYS)))
        self.assertIsNot(policy_of(values), found)


class Case(unittest.TestCase):
    def check(self, value, due):
        self.assertEqual(calm(self, fault_of_policy, ground(), value), due, value)

    def wrong(self, due, **parts):
        self.check(policy(**parts), due)


class Forms(Case):
    def test_right_ones(self):
        self.check(policy(), None)
        self.check(policy(keep="cut", room=1), None)
        self.check(policy(keep="stay", room=256), None)
        self.wrong(None, rules=((), DROP), services=(), limits=(), routes=(), headers=(), trusted=())

    def test_no_dict_with_just_these_keys(self):
        for value in ODD + ([policy()], tuple(policy().items()), list(policy())):
            self.check(value, ("form", None))
        for key in KEYS:
            value = policy()
            del value[key]
            self.check(value, ("form", None))
            value[key + "s"] = ()
            self.check(value, ("form", None))
        self.check({**policy(), "x": ()}, ("form", None))
        self.check({key: () for key in range(10)}, ("form", None))

    def test_values_that_are_no_tuples(self):
        for key in KEYS:
            for value in ODD:
                if not isinstance(value, tuple) and key not in ("room", "keep"):
                    self.wrong(("form", None), **{key: value})
            if key not in ("room", "keep"):
                self.wrong(("form", None), **{key: list(policy()[key])})

    def test_rules(self):
        row = (WHOLE, ("drop",), ())
        for rules in ((), ((),), ((), DROP, ()), (DROP,), ([], DROP), ((), list(DROP)), ((), ()), ((), DROP + (1,)), ((row[:2],), DROP),
                      ((row + (1,),), DROP), ((list(row),), DROP), ((None,), DROP), (None, DROP), ((), None), ((row, 5), DROP)):
            self.wrong(("form", None), rules=rules)

    def test_limits(self):
        for limits in ((None,), (LIMITS[0][:3],), (LIMITS[0] + (1,),), (list(LIMITS[0]),), LIMITS + (5,)):
            self.wrong(("form", None), limits=limits)

    def test_services(self):
        name, servers, choice, hold = WEB
        for service in (None, WEB[:3], WEB + (1,), list(WEB), (name, list(servers), choice, hold), (name, None, choice, hold),
                        (name, (servers[0][:4],), choice, hold), (name, (servers[0] + (1,),), choice, hold),
                        (name, (list(servers[0]),), choice, hold), (name, (5,), choice, hold)):
            self.wrong(("form", None), services=(service,))
            self.wrong(("form", None), services=(DNS, service))


class Words(Case):
    def test_room(self):
        for room in (0, 257, -1, None, True, "5", 5.0, (5,), [5]):
            self.wrong(("room", None), room=room)

    def test_keep(self):
        for keep in ("", "Stay", "cuts", None, True, ("cut",), ["cut"], 5, {}):
            self.wrong(("keep", None), keep=keep)

    def test_times(self):
        for times in ((), TIMES[:-1], TIMES + (1,), ("time",) + TIMES[1:], put(TIMES, (3,), 0), put(TIMES, (9,), 86401),
                      put(TIMES, (1,), True)):
            self.wrong(("times", None), times=times)

    def test_limits(self):
        for at in range(3):
            self.wrong(("name", at), limits=put(LIMITS, (at, 0), "A"), rules=((), DROP))
            self.wrong(("kind", at), limits=put(LIMITS, (at, 1), "x"))
            self.wrong(("numbers", at), limits=put(LIMITS, (at, 2), ()))
            self.wrong(("key", at), limits=put(LIMITS, (at, 3), ("x",)))
        self.wrong(("twice", 2), limits=put(LIMITS, (2, 0), "few"))
        many = tuple(("l" + "abcdefghijklmnopq"[at], "open", (1,), ()) for at in range(17))
        self.wrong(("limits", 16), limits=many)

    def test_services(self):
        for at in range(2):
            both = (WEB, DNS)
            self.wrong(("name", at), services=put(both, (at, 0), "A"))
            self.wrong(("choice", at), services=put(both, (at, 2), "x"))
            self.wrong(("hold", at), services=put(both, (at, 3), -1))
            self.wrong(("servers", at), services=put(both, (at, 1), ()))
            self.wrong(("server", at), services=put(both, (at, 1, 1, 0), ""))
            self.wrong(("weight", at), services=put(both, (at, 1, 1, 3), 101))
            self.wrong(("health", at), services=put(both, (at, 1, 1, 4), "x"))
            self.wrong(("alike", at), services=put(both, (at, 1, 1, 0), both[at][1][0][0]))
        self.wrong(("twice", 1), services=(WEB, put(DNS, (0,), "web")))
        self.wrong(("services", 16), services=tuple(put(WEB, (0,), "w" + "abcdefghijklmnopq"[at]) for at in range(17)))

    def test_place(self):
        for at in range(2):
            for address in (0, 2 ** 32, -1, SERVER, OWN, 0x7F000001, None, True, "a", PC * 1.0, (PC,), 0x0AFFFFFF + 1):
                self.wrong(("place", at), services=put((WEB, DNS), (at, 1, 1, 1), address))
            for port in (0, 65536, -1, None, True, "80", 80.0):
                self.wrong(("place", at), services=put((WEB, DNS), (at, 1, 0, 2), port))
            self.wrong(None, services=put(put((WEB, DNS), (at, 1, 0, 2), 1), (at, 1, 1, 2), 65535))

    def test_the_table(self):
        row = (WHOLE, ("drop",), ())
        self.wrong(("rules", (24, None)), rules=((row,) * 25, DROP))
        self.wrong(("field", (1, None)), rules=((row, put(row, (0,), ())), DROP))
        self.wrong(("range", (0, 3)), rules=((put(row, (0, 3), ((2, 1),)),), DROP))
        self.wrong(("great", (0, 0)), rules=((put(row, (0, 0), ((0, 2),)),), DROP))
        self.wrong(("order", (0, 5)), rules=((put(row, (0, 5), ((1, 2), (3, 4))),), DROP))
        self.wrong(("ranges", (0, 5)), rules=((put(row, (0, 5), tuple((at * 2, at * 2) for at in range(5))),), DROP))
        self.wrong(("limits", (0, None)), rules=((put(row, (2,), ("few", "few")),), DROP))
        self.wrong(("limits", (1, None)), rules=((row,), (("drop",), None)))

    def each_rule(self, due, fate, names=()):
        """Look at a fate and limits as those of a rule, and as those of the last one."""
        row = (WHOLE, ("drop",), ())
        self.wrong(due and (due, 0), rules=(((WHOLE, fate, names),), DROP))
        self.wrong(due and (due, 2), rules=((row, row, (WHOLE, fate, names)), DROP))
        self.wrong(due and (due, 1), rules=((row,), (fate, names)))

    def test_fates(self):
        for fate in (("drop",), ("refuse",), ("pass",), ("source", POOL), ("forward", "web", POOL), ("forward", "dns", None)):
            self.each_rule(None, fate)
        for fate in ODD + (("drop", 1), ("refuse", None), ("pass", POOL), ("source",), ("source", None), ("source", POOL, 1), ("source", ()),
                           ("forward",), ("forward", "web"), ("forward", "web", None, 1), ("forward", "web", 5), ("forward", "web", ()),
                           ("forward", "web", POOL[:3]), ("source", POOL + (1,)), ("source", list(POOL)), ("source", put(POOL, (0,), "p")),
                           (("drop",),), (["drop"],), ["drop"], "drop", ("Drop",), (None, POOL), ("forward", "x", 5)):
            self.each_rule("fate", fate)

    def test_no_service(self):
        for name in ("x", "", "few", None, 5, True, ("web",), ["web"], {}):
            self.each_rule("no service", ("forward", name, None))
            self.each_rule("no service", ("forward", name, POOL))

    def test_words_of_a_pool(self):
        for pool, word in ((put(POOL, (1,), ()), "addresses"), (put(POOL, (1,), (PC,)), "addresses"), (put(POOL, (2,), 5), "ports"),
                           (put(POOL, (3,), None), "ports"), (("pool", None, None, None), "addresses")):
            self.each_rule(word, ("source", pool))
            self.each_rule(word, ("forward", "web", pool))
            self.each_rule("no service", ("forward", "x", pool))

    def test_no_limit(self):
        for names in (("x",), ("few", "web"), ("",)):
            self.each_rule("no limit", ("drop",), names)
            self.each_rule("no limit", ("source", POOL), names)
            self.each_rule("ports", ("source", put(POOL, (2,), 5)), names)
        self.each_rule(None, ("pass",), ("wide", "few", "slow"))

    def test_rule_by_rule(self):
        rules = ((WHOLE, ("drop",), ("x",)), (WHOLE, None, ()))
        self.wrong(("no limit", 0), rules=(rules, DROP))
        self.wrong(("fate", 0), rules=(rules[::-1], DROP))

    def test_the_other_parts(self):
        self.wrong(("route", 0), routes=(None,))
        self.wrong(("route", None), routes=(route(),) * 41)
        self.wrong(("no service", 1), routes=(route("a"), route(service="x")))
        self.wrong(("no limit", 0), routes=(route(limits=("x",)),))
        self.wrong(("same route", 1), routes=(route(), route()))
        self.wrong(("header", 0), headers=(5,))
        self.wrong(("header", None), headers=(("from", "a"),) * 31)
        self.wrong(("same header", 1), headers=(("from", "a"), ("from", "a")))
        self.wrong(("trusted", 1), trusted=((1, 2), (2, 3)))
        self.wrong(("trusted", None), trusted=((1, 2),) * 21)
        self.wrong(("error", None), errors=ERRORS[:5])
        self.wrong(("error", 3), errors=put(ERRORS, (3, 1), 200))

    def test_the_first_of_two_faults(self):
        """Each fault with each later one: the earlier one is told."""
        faults = [
            (("form", None), {"trusted": None}), (("room", None), {"room": 0}), (("keep", None), {"keep": ""}),
            (("times", None), {"times": ()}), (("name", 0), {"limits": put(LIMITS, (0, 0), "A")}),
            (("choice", 0), {"services": put((WEB, DNS), (0, 2), "x")}), (("place", 0), {"services": put((WEB, DNS), (0, 1, 0, 1), 0)}),
            (("field", (0, None)), {"rules": (put(RULES, (0, 0), ()), DROP)}), (("fate", 0), {"rules": (put(RULES, (0, 1), ()), DROP)}),
            (("route", 0), {"routes": (None,)}), (("header", 0), {"headers": (None,)}), (("trusted", 0), {"trusted": (None,)}),
            (("error", 0), {"errors": put(ERRORS, (0,), None)}),
        ]
        for at, (due, parts) in enumerate(faults):
            self.check(policy(**parts), due)
            for _, others in faults[at + 1:]:
                self.check(policy(**{**others, **parts}), due)

    def test_the_ground_decides(self):
        value = policy()
        self.assertIsNone(fault_of_policy(("ground", ((0x0A000000, 8), (0xC0A80000, 16)), (OWN, OWN + 1), 1), value))
        self.assertEqual(fault_of_policy(("ground", ((0x0A000000, 8),), (OWN, OWN + 1), 1), value), ("place", 1))
        self.assertEqual(fault_of_policy(("ground", ((0x0A000000, 8), (0xC0A80000, 16)), (OWN,), 1), value), ("addresses", 0))


if __name__ == "__main__":
    unittest.main()
