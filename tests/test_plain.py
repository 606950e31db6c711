"""Points 703 to 706 and 730 to 735: the plain worker, event by event."""

import copy
import unittest

from onepolicy.answers import expired, refusing
from onepolicy.plain import Plain
from onepolicy.sending import inside_octets, outside_octets, own_octets
from edge_samples import (
    CLIENT, DNS, LIMITS, OTHER, POOL, RULES, WEB, answer, ask_packet, ground, octets_of, policy, request, route, server,
    syn, to,
)
from flow_samples import HOST, TIMES, failure_by
from onepolicy.ways import way_of
from samples import OWN, PC, ROUTER, SERVER, echo, packet, tcp, udp
from table_samples import match

NAME = (7, 0)
DROP = (("drop",), ())


def out_packet(port=5000, source=PC, hops=64, target=SERVER, to_port=99):
    """Return a packet from inside to outside."""
    return packet(udp(port, to_port), source, target, hops)


class Case(unittest.TestCase):
    def setUp(self):
        self.plain = Plain(ground(), 0, None)
        self.versions = {1: (policy(), 0)}
        self.version = 1
        self.number = 0

    def use(self, number=1, cut=0, **parts):
        self.versions[number] = (policy(**parts), cut)
        self.version = number

    def take(self, moment, event):
        """Take an event; nothing that is handed in changes, and a twin does the same, by itself."""
        self.number += 1
        given = (self.versions, self.number, moment, self.version, event)
        before, twin = copy.deepcopy(given), self.plain.twin()
        living = self.plain.living()
        found = self.plain.take(*given)
        self.assertEqual(given, before)
        self.assertEqual(twin.living(), living)
        self.assertEqual([type(found), len(found), type(found[0]), type(found[1])], [tuple, 2, list, list])
        for output in found[0]:
            self.assertIs(type(output), tuple)
            if output[0] in ("send", "call", "tell"):
                self.assertIs(type(output[-1]), tuple)
        self.assertEqual(twin.take(*given), found)
        self.assertEqual(twin.living(), self.plain.living())
        return found

    def packet(self, moment, given, side=None):
        """Take a packet; return the outputs and its fate."""
        side = side or ("out" if given[1] >> 24 not in (10, 192) else "in")
        outputs, fates = self.take(moment, ("packet", side, octets_of(given)))
        self.assertEqual(len(fates), 1)
        return outputs, fates[0]

    def fate(self, moment, given, due, side=None, sent=None):
        """Look at the fate of a packet, and that nothing is sent, or the answer sent to a side."""
        outputs, fate = self.packet(moment, given, side)
        self.assertEqual(fate, due)
        self.assertEqual(outputs, [] if sent is None else [("send", sent[0], octets_of(sent[1]))])

    def ask(self, moment, name=NAME, given=None, client=CLIENT):
        return self.take(moment, ("request", name, client, given or request()))

    def tick(self, moment):
        return self.take(moment, ("tick",))

    def react(self, moment, reaction, k=1, name=NAME):
        return self.take(moment, ("inside", name, k, reaction))


class Packets(Case):
    def test_a_flow_to_outside(self):
        outputs, fate = self.packet(5, out_packet())
        self.assertEqual(fate, ("opened", 1, 3))
        self.assertEqual(outputs, [("send", "out", octets_of(packet(udp(40000, 99), OWN, SERVER, 63)))])
        back = packet(udp(99, 40000), SERVER, OWN)
        self.assertEqual(self.packet(6, back), ([("send", "in", octets_of(packet(udp(99, 5000), SERVER, PC, 63)))], ("flow", 1)))
        self.assertEqual(self.packet(6, out_packet(5001))[1], ("opened", 2, 3))
        self.assertEqual(self.plain.living(), 2)

    def test_a_flow_to_a_server(self):
        outputs, fate = self.packet(5, syn())
        self.assertEqual(fate, ("opened", 1, 1))
        self.assertEqual(outputs, [("send", "in", octets_of(packet(tcp(2, 100, 0, source_port=4000, target_port=8080), CLIENT, PC, 63)))])
        outputs, fate = self.packet(5, syn(port=4001))
        self.assertEqual(outputs[0][2], octets_of(packet(tcp(2, 100, 0, source_port=4001, target_port=8080), CLIENT, PC + 1, 63)))
        self.assertEqual(fate, ("opened", 2, 1))
        reply = packet(tcp(18, 500, 101, source_port=8080, target_port=4000), PC, CLIENT)
        self.assertEqual(self.packet(6, reply), (
            [("send", "out", octets_of(packet(tcp(18, 500, 101, source_port=80, target_port=4000), OWN, CLIENT, 63)))], ("flow", 1)))

    def test_the_index_of_the_last_rule(self):
        self.use(rules=(((to(1), ("drop",), ()),), (("pass",), ())))
        self.assertEqual(self.packet(1, out_packet())[1], ("opened", 1, 1))
        self.use(rules=((), (("pass",), ())))
        self.assertEqual(self.packet(1, out_packet(5001))[1], ("opened", 2, 0))

    def test_failures_of_flows(self):
        self.packet(1, out_packet())
        back = way_of(packet(udp(99, 40000), SERVER, OWN))
        outputs, fate = self.packet(2, failure_by(back, ROUTER))
        self.assertEqual((fate, outputs[0][:2]), (("flow", 1), ("send", "in")))


class Bars(Case):
    """Each bar of point 732, in its order, alone and with a later one; nothing is taken by what is barred."""

    def setUp(self):
        super().setUp()
        self.use(rules=(RULES[:4] + (
            (to(70, 17), ("forward", "dns", None), ("one", "two")), (to(71, 17, None), ("drop",), ()),
            (to(72, 17, None), ("refuse",), ()), (match(f1=((17, 17),)), ("pass",), ())), (("pass",), ())),
            limits=LIMITS + (("one", "open", (1,), ()), ("two", "bucket", (0, 1, 5), ())), room=3)

    def state(self):
        plain = self.plain
        return copy.deepcopy((plain.book["flows"], plain.book["ways"], plain.book["bindings"], plain.book["next"], plain.desk,
                              plain.given))

    def bar(self, moment, given, word, side=None, sent=None):
        """Look at a packet that is dropped with a word, or refused; nothing but its fate is left of it."""
        self.tick(moment)
        before = self.state()
        self.fate(moment, given, ("refuse",) if word is None else ("drop", word), side, sent)
        self.assertEqual(self.state(), before)

    def raw(self, octets, word, side="out"):
        before = self.state()
        self.assertEqual(self.take(0, ("packet", side, tuple(octets))), ([], [("drop", word)]))
        self.assertEqual(self.state(), before)

    def test_words_of_read(self):
        given = octets_of(ask_packet())
        self.raw((), "short")
        self.raw(given[:-1], "cut")
        self.raw(given + (0,), "long")
        self.raw(given[:8] + (7,) + given[9:], "sum")
        # Read goes ahead of the side.
        self.raw(given[:-1], "cut", "in")

    def test_side(self):
        self.bar(0, ask_packet(), "side", "in")
        self.bar(0, out_packet(), "side", "out")
        self.bar(0, ask_packet(source=OWN), "side", "out")
        # The side goes ahead of hops, strays and rules.
        self.bar(0, ask_packet(hops=1), "side", "in")
        self.bar(0, packet(echo("answer"), CLIENT, OWN), "side", "in")
        self.bar(0, ask_packet(to_port=71), "side", "in")

    def test_words_of_carry(self):
        self.packet(0, syn())
        low = syn(hops=1)
        self.bar(1, low, "hops", sent=("out", expired(ground(), low)))
        rst = packet(tcp(4, 100, 0, source_port=4000, target_port=80), CLIENT, OWN, 1)
        self.bar(1, rst, "hops")
        for segment, word in ((tcp(0, 100), "odd"), (tcp(16, 101, 7), "state")):
            self.bar(1, packet(segment[:1] + (4000, 80) + segment[3:], CLIENT, OWN), word)
        reply = way_of(packet(tcp(18, 500, 101, source_port=8080, target_port=4000), PC, CLIENT))
        self.bar(1, failure_by(reply, PC, seq=7), "quoted")
        # In a flow the rules are not asked.
        self.use(2, rules=((), DROP))
        self.assertEqual(self.packet(1, syn())[1], ("flow", 1))

    def test_hops_of_a_flow_are_answered_to_their_side(self):
        self.packet(0, out_packet())
        low = out_packet(hops=1)
        self.bar(1, low, "hops", sent=("in", expired(ground(), low)))
        low = packet(udp(99, 40000), SERVER, OWN, 1)
        self.bar(1, low, "hops", sent=("out", expired(ground(), low)))

    def test_stray(self):
        self.bar(0, packet(echo("answer"), CLIENT, OWN), "stray")
        self.bar(0, packet(tcp(16), CLIENT, OWN), "stray")
        self.bar(0, packet(tcp(18), CLIENT, OWN), "stray")
        self.bar(0, failure_by(way_of(ask_packet(port=99)), ROUTER), "stray")
        # Strays go ahead of the rules and of hops.
        self.bar(0, packet(tcp(16, source_port=4000, target_port=25), CLIENT, OWN, 1), "stray")
        self.bar(0, packet(echo("answer"), CLIENT, OWN, 1), "stray")

    def test_rules(self):
        self.bar(0, ask_packet(to_port=71), "rules")
        self.bar(0, ask_packet(to_port=71, hops=1), "rules")
        self.bar(0, ask_packet(to_port=71, target=PC), "rules")

    def test_refuse(self):
        for given in (ask_packet(to_port=72), ask_packet(to_port=72, target=PC), ask_packet(to_port=72, hops=1), syn(to_port=25)):
            self.bar(0, given, None, sent=("out", refusing(ground(), given)))
        inner = packet(tcp(2, 7, 0, target_port=25), PC, SERVER)
        self.bar(0, inner, None, sent=("in", refusing(ground(), inner)))

    def test_hops(self):
        for given in (ask_packet(hops=1), ask_packet(to_port=99, hops=1), syn(hops=1)):
            self.bar(0, given, "hops", sent=("out", expired(ground(), given)))
        given = out_packet(hops=1)
        self.bar(0, given, "hops", sent=("in", expired(ground(), given)))
        # Hops go ahead of what is planned.
        given = ask_packet(to_port=99, hops=1)
        self.bar(0, given, "hops", sent=("out", expired(ground(), given)))

    def test_words_of_planned(self):
        self.bar(0, ask_packet(to_port=99), "own")
        rules = ((to(53, address=None), ("forward", "dns", None), ()), (to(54), ("source", POOL), ()))
        self.use(rules=(rules, DROP))
        self.bar(0, ask_packet(target=PC), "target")
        self.bar(0, ask_packet(source=PC), "hairpin", "in")
        self.bar(0, ask_packet(to_port=54), "own")
        rules = ((to(54, address=None), ("source", POOL), ()),)
        self.use(rules=(rules, DROP))
        self.bar(0, ask_packet(target=PC, to_port=54), "source")
        down = ("dns", (server("d", HOST, 53, health="down"),), "turns", None)
        self.use(services=(WEB, down))
        self.bar(0, ask_packet(), "none")

    def test_planned_goes_ahead_of_opened(self):
        down = ("dns", (server("d", HOST, 53, weight=0),), "turns", None)
        self.use(services=(WEB, down), room=1)
        self.packet(0, out_packet())
        self.bar(0, ask_packet(), "none")
        self.bar(0, out_packet(5001), "full")

    def test_words_of_opened(self):
        for port in (1, 2, 3):
            self.packet(0, out_packet(5000 + port))
        self.bar(0, out_packet(), "full")
        self.bar(0, ask_packet(), "full")
        self.setUp()
        small = ("pool", (OWN,), 40000, 40000)
        self.use(rules=((RULES[3][:1] + (("source", small), ()),), DROP))
        self.packet(0, out_packet())
        self.bar(0, out_packet(5001), "ports")
        self.setUp()
        self.use(rules=((), (("pass",), ())))
        self.packet(0, packet(udp(99, 5000), SERVER, PC))
        self.bar(0, packet(udp(5000, 5000), PC, PC), "alike", "in")

    def test_opened_goes_ahead_of_limits(self):
        self.use(rules=(((to(70), ("forward", "dns", None), ("one",)),), DROP), limits=(("one", "open", (0,), ()),), room=1,
                 routes=())
        self.bar(0, ask_packet(to_port=70), "limit")
        self.use(2, rules=((), (("pass",), ())), routes=(), room=1)
        self.packet(0, out_packet())
        self.versions[3] = (self.versions[1][0], 0)
        self.version = 3
        self.bar(0, ask_packet(to_port=70), "full")

    def test_limit(self):
        self.assertEqual(self.packet(0, ask_packet(to_port=70))[1], ("opened", 1, 4))
        for port in range(3):
            self.bar(0, ask_packet(port=5000 + port, to_port=70), "limit")
        self.assertEqual([sum(costs for _, costs in keys.values()) for keys in self.plain.desk["states"].values()], [1])
        self.assertEqual(self.plain.desk["balance"]["open"], {("dns", self.plain.given[1][1]): 1})

    def test_turns_do_not_pass_by_what_is_barred(self):
        self.use(services=(WEB, ("dns", DNS[1], "turns", None)), limits=LIMITS + (("one", "open", (1,), ()), ("two", "bucket", (0, 1, 5), ())),
                 rules=self.versions[1][0]["rules"])
        self.packet(0, ask_packet(to_port=70))
        self.assertEqual(self.plain.given[1], ("dns", "d", CLIENT))
        for port in range(3):
            self.bar(0, ask_packet(port=5000 + port, to_port=70), "limit")
        self.tick(TIMES[6])
        self.assertEqual(self.packet(TIMES[6], ask_packet(port=6000, to_port=70))[1][0], "opened")
        self.assertEqual(self.plain.given[2], ("dns", "e", CLIENT))

    def test_a_flow_that_carry_ends_stays_ended(self):
        self.packet(0, syn())
        closing = packet(tcp(4, 101, 0, source_port=4000, target_port=80), CLIENT, OWN)
        self.assertEqual(self.packet(1, closing)[1], ("flow", 1))
        self.assertEqual(len(self.plain.desk["holds"]), 1)
        # A talk is begun anew, but the rules of now do not let it by.
        self.use(2, rules=((), DROP))
        self.assertEqual(self.packet(2, syn(seq=5000)), ([], ("drop", "rules")))
        self.assertEqual((self.plain.living(), self.plain.desk["holds"], self.plain.desk["balance"]["open"]), (0, [], {}))

    def test_a_talk_begun_anew_gets_what_the_ended_flow_gives_back(self):
        self.use(limits=(("few", "open", (1,), ("outside",)),) + LIMITS[1:])
        self.packet(0, syn())
        self.packet(1, packet(tcp(4, 101, 0, source_port=4000, target_port=80), CLIENT, OWN))
        self.bar(1, syn(port=4001), "limit")
        self.assertEqual(self.packet(2, syn(seq=5000))[1], ("opened", 2, 1))
        self.assertEqual([row[0] for row in self.plain.desk["holds"]], [2])


class Asking(Case):
    """Who asks the limits of a rule (point 733)."""

    def check(self, given, fate, key, side=None):
        words = ("kind", "outside", "inside", "service")
        self.setUp()
        self.use(rules=((), (fate, ("all",))), limits=(("all", "open", (9,), words),), routes=(),
                 services=(WEB, ("dns", DNS[1], "turns", None)))
        self.assertEqual(self.packet(0, given, side)[1][0], "opened")
        self.assertEqual(self.plain.desk["holds"], [(1, ("all", "open", (9,), words), key)])

    def test_who_asks(self):
        self.check(out_packet(), ("pass",), ("udp", SERVER, PC, None))
        self.check(out_packet(), ("source", POOL), ("udp", SERVER, PC, None))
        self.check(ask_packet(target=PC), ("pass",), ("udp", CLIENT, PC, None))
        self.check(ask_packet(), ("forward", "dns", None), ("udp", CLIENT, HOST, "dns"))
        self.check(ask_packet(source=HOST + 1), ("forward", "dns", POOL), ("udp", None, HOST + 1, "dns"), "in")
        self.check(syn(), ("forward", "web", None), ("tcp", CLIENT, PC, "web"))
        self.check(packet(echo("ask"), CLIENT, PC), ("pass",), ("echo", CLIENT, PC, None))
        self.check(ask_packet(source=PC, target=HOST), ("pass",), ("udp", None, PC, None), "in")
        self.check(ask_packet(source=CLIENT, target=OTHER), ("pass",), ("udp", CLIENT, None, None))

    def test_in_the_order_of_the_rule_with_the_cost_1(self):
        limits = (("a", "bucket", (0, 1, 2), ()), ("b", "bucket", (0, 1, 9), ()))
        self.use(rules=((), (("pass",), ("b", "a"))), limits=limits, routes=())
        for port in (1, 2):
            self.assertEqual(self.packet(0, out_packet(port))[1][0], "opened")
        self.assertEqual(self.packet(0, out_packet(3))[1], ("drop", "limit"))
        self.assertEqual({name: list(keys.values())[0][1] for name, keys in self.plain.desk["states"].items()}, {"a": 2, "b": 2})

    def test_flows_hold_until_they_end(self):
        self.use(rules=((), (("pass",), ("one",))), limits=(("one", "open", (1,), ("inside",)),), routes=())
        self.packet(0, out_packet())
        self.assertEqual(self.packet(29, out_packet(5001))[1], ("drop", "limit"))
        self.assertEqual(self.packet(TIMES[6], out_packet(5001))[1], ("opened", 2, 0))
        self.assertEqual(self.packet(TIMES[6], out_packet(5001, HOST))[1], ("opened", 3, 0))

    def test_flows_and_requests_hold_the_same(self):
        self.use(limits=(("few", "open", (2,), ("outside",)),) + LIMITS[1:], routes=(route(limits=("few",)),))
        self.packet(0, syn())
        self.assertEqual(self.ask(0)[1], [])
        self.assertEqual(self.ask(0, (8, 0))[1], [((8, 0), ("limit", 0))])
        self.assertEqual(self.packet(0, syn(port=4001))[1], ("drop", "limit"))
        self.react(1, ("answer", answer()))
        self.assertEqual(self.packet(1, syn(port=4001))[1], ("opened", 2, 1))


class Order(Case):
    """Point 731: what is over, the cut, the counts, the calls, kept clients, and then the event."""

    def test_flows_end_at_their_own_moments(self):
        self.use(services=(WEB, ("dns", DNS[1], "turns", 40)))
        self.packet(0, ask_packet())
        self.assertEqual(self.plain.given[1], ("dns", "d", CLIENT))
        # The flow is over at 30, so the client is kept until 70.
        self.tick(69)
        self.assertEqual(self.plain.living(), 0)
        self.assertEqual(self.plain.desk["balance"]["kept"], {("dns", CLIENT): ("d", TIMES[6])})
        self.tick(70)
        self.assertEqual(self.plain.desk["balance"]["kept"], {})

    def test_bindings_rest_from_their_own_moments(self):
        small = ("pool", (OWN,), 40000, 40000)
        self.use(rules=((RULES[3][:1] + (("source", small), ()),), DROP))
        self.packet(0, out_packet())
        self.assertEqual(self.packet(TIMES[6] + 59, out_packet(5001))[1], ("drop", "ports"))
        self.assertEqual(self.packet(TIMES[6] + 60, out_packet(5001))[1], ("opened", 2, 0))

    def test_calls_give_back_at_their_dues(self):
        self.use(services=(("web", WEB[1], "turns", 20), DNS), routes=(route(tries=1, wait=10),))
        self.ask(0)
        self.assertEqual(self.tick(29)[1], [(NAME, ("late", 1))])
        self.assertEqual(self.plain.desk["balance"]["kept"], {("web", CLIENT): ("a", 10)})
        self.tick(30)
        self.assertEqual(self.plain.desk["balance"]["kept"], {})

    def test_kept_clients_are_looked_at_behind_the_calls_that_are_over(self):
        self.use(services=(("web", WEB[1], "turns", 20), DNS), routes=(route(tries=1, wait=10),))
        self.ask(0)
        self.tick(30)
        self.assertEqual(self.plain.desk["balance"]["kept"], {})

    def test_kept_clients_by_the_version_of_the_event(self):
        hold = (("web", WEB[1], "turns", 1000), DNS)
        self.use(1, services=hold)
        self.ask(0)
        self.react(1, ("answer", answer()))
        self.use(2)
        self.tick(2)
        self.use(3, services=hold)
        self.assertEqual(self.plain.desk["balance"]["kept"], {})
        self.assertEqual(self.ask(3, (8, 0))[0][0][3], "b")

    def test_what_is_over_is_given_back_ahead_of_the_event(self):
        self.use(limits=(("few", "open", (1,), ()),) + LIMITS[1:], routes=(route(limits=("few",), tries=1, wait=10),))
        self.ask(0)
        self.assertEqual(self.packet(9, syn())[1], ("drop", "limit"))
        outputs, fates = self.take(10, ("packet", "out", octets_of(syn())))
        self.assertEqual(fates, [(NAME, ("late", 1)), ("opened", 1, 1)])
        self.assertEqual([output[0] for output in outputs], ["hang up", "tell", "send"])

    def test_a_flow_that_is_over_is_given_back_ahead_of_a_turn(self):
        self.use(limits=(("few", "open", (2,), ()),) + LIMITS[1:], routes=(route(limits=("few",), tries=1, wait=TIMES[1]),))
        self.packet(0, syn())
        self.ask(0)
        self.ask(0, (7, 1))
        outputs, fates = self.tick(TIMES[1])
        self.assertEqual((fates, outputs[-1][0]), ([(NAME, ("late", 1))], "call"))
        self.assertEqual([row[0] for row in self.plain.desk["holds"]], [(7, 1)])

    def test_calls_in_the_order_of_their_dues(self):
        self.use(routes=(route(tries=1, wait=10),))
        for moment, name in ((0, (9, 0)), (1, (8, 0)), (1, (7, 0))):
            self.ask(moment, name)
        self.assertEqual(self.tick(50)[1], [((9, 0), ("late", 1)), ((7, 0), ("late", 1)), ((8, 0), ("late", 1))])

    def test_what_is_late_happens_at_the_moment_of_the_event(self):
        self.use(routes=(route(tries=2, wait=10),))
        self.ask(0)
        self.assertEqual([output[:3] for output in self.tick(25)[0]], [("hang up", NAME, 1), ("call", NAME, 2)])
        self.assertEqual(self.tick(34), ([], []))
        self.assertEqual(self.tick(35)[1], [(NAME, ("late", 2))])

    def test_late_goes_ahead_of_an_answer_in_the_event(self):
        self.use(routes=(route(tries=1, wait=10),))
        self.ask(0)
        outputs, fates = self.react(10, ("answer", answer()))
        self.assertEqual(fates, [(NAME, ("late", 1)), (NAME, ("stray", 1))])
        self.assertEqual([output[0] for output in outputs], ["hang up", "tell"])

    def test_cut_goes_ahead_of_late(self):
        self.use(routes=(route(tries=1, wait=10),))
        self.ask(0)
        self.use(2, cut=2)
        self.assertEqual(self.tick(50), ([("hang up", NAME, 1), ("close", 7)], [(NAME, ("cut", 1))]))


class Cuts(Case):
    def test_flows_and_requests_of_lesser_versions(self):
        self.use(1, routes=(route(limits=("few",)),))
        self.packet(0, syn())
        self.packet(0, ask_packet())
        self.ask(0, (9, 0))
        self.ask(0, (7, 0))
        self.ask(0, (7, 1))
        self.use(2, cut=0)
        self.packet(1, ask_packet(port=4100))
        self.use(3, cut=2)
        outputs, fates = self.take(2, ("packet", "out", octets_of(ask_packet())))
        self.assertEqual(outputs[:4], [("hang up", (7, 0), 1), ("close", 7), ("hang up", (9, 0), 1), ("close", 9)])
        self.assertEqual(fates, [((7, 0), ("cut", 1)), ((7, 1), ("cut", 0)), ((9, 0), ("cut", 1)), ("opened", 4, 0)])
        self.assertEqual(sorted(self.plain.book["flows"]), [3, 4])
        self.assertEqual((self.plain.desk["holds"], self.plain.desk["balance"]["open"][("dns", self.plain.given[3][1])]), ([], 2))

    def test_only_by_a_cut_that_is_greater_than_all_before(self):
        self.use(2, cut=2)
        self.packet(0, ask_packet())
        self.use(3, cut=2)
        self.packet(0, ask_packet(port=4100))
        self.assertEqual(self.plain.living(), 2)
        self.use(4, cut=4)
        self.tick(1)
        self.assertEqual(self.plain.living(), 0)
        self.packet(1, ask_packet())
        self.use(5, cut=4)
        self.tick(2)
        self.assertEqual(self.plain.living(), 1)

    def test_given_back_at_the_moment_of_the_event(self):
        services = (("web", WEB[1], "turns", 40), ("dns", DNS[1], "turns", 40))
        self.use(1, services=services, routes=(route(wait=1000),))
        self.packet(0, ask_packet())
        self.ask(0)
        self.use(2, cut=2, services=services)
        self.tick(7)
        self.assertEqual(self.plain.desk["balance"]["kept"], {("dns", CLIENT): ("d", 7), ("web", CLIENT): ("a", 7)})
        self.assertEqual(self.plain.desk["balance"]["open"], {})

    def test_a_flow_that_is_over_is_not_cut(self):
        self.use(1, services=(WEB, ("dns", DNS[1], "turns", 400)))
        self.packet(0, ask_packet())
        self.use(2, cut=2, services=(WEB, ("dns", DNS[1], "turns", 400)))
        self.tick(200)
        self.assertEqual(self.plain.desk["balance"]["kept"], {("dns", CLIENT): ("d", TIMES[6])})

    def test_the_event_is_dealt_with_behind_the_cut(self):
        self.ask(0)
        self.use(2, cut=2)
        outputs, fates = self.react(1, ("answer", answer()))
        self.assertEqual(fates, [(NAME, ("cut", 1)), (NAME, ("stray", 1))])
        self.assertEqual(self.ask(1, (7, 1))[1], [((7, 1), ("unknown", 0))])


class Versions(Case):
    def test_a_flow_keeps_its_version(self):
        self.packet(0, out_packet())
        slow = TIMES[:6] + (86400, 86400) + TIMES[8:]
        self.use(2, rules=((), DROP), times=slow, services=(), room=1, routes=())
        self.assertEqual(self.packet(5, out_packet())[1], ("flow", 1))
        self.assertEqual(self.plain.book["flows"][1][5], 1)
        self.assertEqual(self.packet(5 + TIMES[6], out_packet())[1], ("drop", "rules"))

    def test_new_flows_get_the_version_of_the_event(self):
        self.use(3, times=TIMES[:6] + (7,) + TIMES[7:], room=1)
        self.packet(0, out_packet())
        flow = self.plain.book["flows"][1]
        self.assertEqual(flow[4:6], (7, 3))
        self.assertEqual(self.packet(6, out_packet(5001))[1], ("drop", "full"))
        self.assertEqual(self.packet(7, out_packet(5001))[1], ("opened", 2, 3))

    def test_a_request_keeps_its_version(self):
        self.use(1, routes=(route(tries=2),), headers=(("set", "answer", "s", "one"), ("set", "request", "s", "one")))
        self.ask(0)
        self.use(2, routes=(), headers=())
        outputs, _ = self.react(1, "refused")
        value = self.versions[1][0]
        self.assertEqual(outputs, [("call", NAME, 2, "b", tuple(inside_octets(value, value["routes"][0], CLIENT, NAME, request())))])
        outputs, fates = self.react(2, ("answer", answer()), 2)
        self.assertEqual(outputs, [("tell", 7, tuple(outside_octets(value, "GET", answer())))])
        self.assertEqual(self.ask(2, (7, 1))[1], [((7, 1), ("no route", 0))])

    def test_limits_keep_their_counts_if_the_whole_row_is_the_same(self):
        rows = (("few", "open", (3,), ("outside",)), ("slow", "bucket", (0, 10, 2), ("outside",)), ("wide", "window", (2, 99), ()))
        for changed, slow, wide in (
            (rows, False, False), (rows[::-1], False, False),
            (rows[:1] + (("slow", "bucket", (0, 10, 3), ("outside",)),) + rows[2:], True, False),
            (rows[:2] + (("wide", "window", (2, 98), ()),), False, True),
            (rows[:1] + (("slow", "bucket", (0, 10, 2), ("kind",)), ("wide", "window", (2, 99), ("kind",))), True, True),
        ):
            self.setUp()
            self.use(1, rules=(((to(70, 17, None), ("pass",), ("slow",)), (to(71, 17, None), ("pass",), ("wide",))), DROP),
                     limits=rows, routes=())
            for port in (1, 2):
                self.packet(0, out_packet(port, to_port=70))
                self.packet(0, out_packet(port, to_port=71))
            self.versions[2] = ({**self.versions[1][0], "limits": changed}, 0)
            self.version = 2
            self.assertEqual(self.packet(1, out_packet(9, to_port=70))[1][0], "opened" if slow else "drop")
            self.assertEqual(self.packet(1, out_packet(9, to_port=71))[1][0], "opened" if wide else "drop")

    def test_counts_begin_anew_behind_a_version_without_them(self):
        rows = LIMITS[:1] + (("slow", "bucket", (0, 10, 1), ()),)
        rules = (((to(70, 17, None), ("pass",), ("slow",)),), DROP)
        self.use(1, rules=rules, limits=rows, routes=())
        self.packet(0, out_packet(1, to_port=70))
        self.assertEqual(self.packet(0, out_packet(2, to_port=70))[1], ("drop", "limit"))
        self.use(2, rules=((), DROP), limits=(), routes=())
        self.versions[3] = self.versions[1]
        # Only versions of events count.
        self.version = 3
        self.assertEqual(self.packet(0, out_packet(2, to_port=70))[1], ("drop", "limit"))
        self.version = 2
        self.versions[4] = self.versions[1]
        self.tick(0)
        self.version = 4
        self.assertEqual(self.packet(0, out_packet(2, to_port=70))[1][0], "opened")

    def test_what_is_held_goes_on_to_be_held(self):
        self.use(1, limits=(("few", "open", (1,), ()),) + LIMITS[1:])
        self.packet(0, syn())
        self.use(2, limits=LIMITS)
        self.packet(0, syn(port=4001))
        self.versions[3] = self.versions[1]
        self.version = 3
        self.assertEqual(self.packet(0, syn(port=4002))[1], ("drop", "limit"))

    def test_turns_go_on_over_versions(self):
        self.packet(0, syn())
        self.use(2)
        self.assertEqual(self.ask(0)[0][0][3], "b")


class Requests(Case):
    def test_requests_and_answers(self):
        value = policy()
        outputs, fates = self.ask(0)
        self.assertEqual((outputs, fates), ([("call", NAME, 1, "a", tuple(inside_octets(value, route(), CLIENT, NAME, request())))], []))
        self.assertEqual(self.react(1, ("answer", answer(200, (), (1, 2)))), (
            [("tell", 7, tuple(outside_octets(value, "GET", answer(200, (), (1, 2)))))], [(NAME, ("answered", 200, 1))]))
        for reaction in ("refused", "broken", ("answer", ()), ("answer", answer())):
            self.assertEqual(self.react(2, reaction, 3), ([], [(NAME, ("stray", 3))]))

    def test_faults_and_closings(self):
        self.assertEqual(self.take(0, ("fault", NAME, CLIENT, "name")), (
            [("tell", 7, tuple(own_octets(policy(), "GET", "refused"))), ("close", 7)], [(NAME, ("fault", "name"))]))
        self.assertEqual(self.take(0, ("gone", 7, CLIENT)), ([], []))
        self.ask(0, (8, 0))
        self.ask(0, (8, 1))
        self.assertEqual(self.take(0, ("gone", 8, CLIENT)), ([("hang up", (8, 0), 1)], [((8, 0), ("gone", 1)), ((8, 1), ("gone", 0))]))
        self.assertEqual(self.take(0, ("fault", (9, 2), CLIENT, "name")), ([], [((9, 2), ("unknown", 0))]))

    def test_flows_and_requests_take_turns(self):
        servers = [self.packet(0, syn())[0][0][2][16:20], self.ask(0)[0][0][3], self.packet(0, syn(port=4001))[0][0][2][16:20]]
        self.assertEqual(servers, [(10, 0, 0, 5), "b", (10, 0, 0, 7)])

    def test_a_tick_does_nothing_by_itself(self):
        self.assertEqual(self.tick(0), ([], []))
        self.packet(0, out_packet())
        self.ask(0)
        self.assertEqual(self.tick(9), ([], []))
        self.assertEqual(self.plain.living(), 1)


class Lives(Case):
    def test_a_life_behind_a_fall(self):
        self.plain = Plain(ground(), 0, 100)
        self.assertEqual(self.packet(100, out_packet())[1], ("drop", "ports"))
        self.assertEqual(self.packet(159, out_packet())[1], ("drop", "ports"))
        self.assertEqual(self.packet(160, out_packet())[1], ("opened", 1, 3))
        self.plain = Plain(ground(), 0, 0)
        self.assertEqual(self.packet(59, out_packet())[1], ("drop", "ports"))
        self.plain = Plain(ground(), 0, None)
        self.assertEqual(self.packet(0, out_packet())[1], ("opened", 1, 3))

    def test_parts_of_the_workers(self):
        for w in range(4):
            self.plain = Plain(ground(4), w, None)
            outputs, fate = self.packet(0, out_packet())
            self.assertEqual(fate[1] % 4, w)
            self.assertEqual((256 * outputs[0][2][20] + outputs[0][2][21]) % 4, w)

    def test_living(self):
        self.assertEqual(self.plain.living(), 0)
        for port in range(5):
            self.packet(0, out_packet(5000 + port))
            self.assertEqual(self.plain.living(), port + 1)
        self.tick(TIMES[6] - 1)
        self.assertEqual(self.plain.living(), 5)
        self.tick(TIMES[6])
        self.assertEqual(self.plain.living(), 0)

    def test_twins_go_on_alone(self):
        self.packet(0, out_packet())
        self.ask(0)
        twin = self.plain.twin()
        self.react(1, ("answer", answer()))
        self.packet(1, out_packet(5001))
        self.tick(1000)
        self.assertEqual((self.plain.living(), twin.living()), (0, 1))
        self.assertEqual(twin.take(self.versions, 90, 2, 1, ("inside", NAME, 1, ("answer", answer())))[1], [(NAME, ("answered", 200, 1))])
        self.assertEqual(twin.take(self.versions, 91, 2, 1, ("packet", "in", octets_of(out_packet(5001))))[1], [("opened", 2, 3)])

    def test_twins_know_what_flows_have_and_what_was_cut(self):
        self.use(services=(WEB, ("dns", DNS[1], "turns", 40)))
        self.packet(0, ask_packet())
        twin = self.plain.twin()
        self.tick(TIMES[6])
        self.assertEqual(self.plain.desk["balance"]["open"], {})
        twin.take(self.versions, 90, TIMES[6], 1, ("tick",))
        self.assertEqual(twin.desk["balance"], self.plain.desk["balance"])

    def test_what_is_told_is_not_shared(self):
        outputs, fates = self.take(0, ("packet", "in", octets_of(out_packet())))
        outputs.clear()
        fates.clear()
        before = copy.deepcopy(self.versions)
        self.versions[1][0].clear()
        self.versions = before
        self.assertEqual(self.packet(0, out_packet())[1], ("flow", 1))


if __name__ == "__main__":
    unittest.main()
