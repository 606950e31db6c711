"""Points 141 to 151: flows and books, deed by deed."""

import unittest

from flow_samples import (
    DICTS, HOST, TIMES, book, enter, failure_by, ground, packet_by, plan, pool, same_but, stub_by,
)
from onepolicy.flows import carry, cut_below, fault_times, held, may_open, new_book, opened, swept
from onepolicy.moving import moved_failure
from onepolicy.packets import fault
from onepolicy.talks import begun, tracked
from onepolicy.ways import moved, turned, way_of
from samples import MOST, OWN, PC, ROUTER, SERVER, calm, echo, failure, packet, tcp, udp, udp_stub

ASKS = {"udp": udp(), "echo": echo(), "tcp": tcp(2, 1000, 0, 500)}
ASKED = {"tcp": 10, "udp": 30, "echo": 8}
OPEN = {"tcp": 300, "udp": 120, "echo": 60}


class Times(unittest.TestCase):
    def test_right_ones(self):
        for value in (TIMES, ("times",) + (1,) * 9, ("times",) + (86400,) * 9):
            self.assertIsNone(calm(self, fault_times, value))

    def test_each_number(self):
        for at in range(1, 10):
            for number in (0, 86401, -1, True, None, "5", 5.0, (5,)):
                value = TIMES[:at] + (number,) + TIMES[at + 1:]
                self.assertEqual(calm(self, fault_times, value), "times", value)

    def test_any_values(self):
        for value in (None, "times", 5, True, (), ("times",), TIMES[:9], TIMES + (5,), list(TIMES), {"times": 1},
                      ("time",) + TIMES[1:], (None,) + TIMES[1:], ((),) + TIMES[1:], ("times", TIMES[1:])):
            self.assertEqual(calm(self, fault_times, value), "times", value)


class NewBooks(unittest.TestCase):
    def test_a_first_life(self):
        for workers in range(1, 5):
            for part in range(workers):
                due = {"ground": ground(workers), "part": part, "quiet": 0, "next": part + workers, "flows": {},
                       "ways": {}, "bindings": {}, "resting": {}}
                self.assertEqual(calm(self, new_book, ground(workers), part, None), due)

    def test_behind_a_fall(self):
        for moment in (0, 1, 1000):
            self.assertEqual(calm(self, new_book, ground(2), 1, moment)["quiet"], moment + 60)

    def test_nothing_is_shared(self):
        first = new_book(ground(), 0, None)
        for name in DICTS:
            first[name]["x"] = 1
            self.assertEqual(new_book(ground(), 0, None)[name], {})

    def test_no_end_up_to_the_quiet(self):
        value = book(moment=100)
        for moment, due in ((100, ("drop", "ports")), (159, ("drop", "ports")), (160, "out")):
            found, answer = opened(value, moment, packet(udp()), plan(of=pool()), 1, 256)
            self.assertEqual(answer if due != "out" else answer[0], due)
            # Who needs no end is served.
            self.assertEqual(opened(value, moment, packet(udp()), plan(), 1, 256)[1][0], "out")


class MayOpen(unittest.TestCase):
    def test_all_bodies(self):
        for body, due in (
            (udp(), True), (udp(summed=0, data=()), True), (echo(), True), (echo("answer"), False), (failure(), False),
            (tcp(2), True), (tcp(2, data=(1,)), False), (tcp(18), False), (tcp(16), False), (tcp(3), False),
            (tcp(6), False), (tcp(0), False), (tcp(1), False), (tcp(4), False), (tcp(17), False), (tcp(19), False),
            (tcp(2 + 8 + 32 + 64 + 128), True), (tcp(2 + 64, options=(3, 3, 7, 0)), True),
        ):
            self.assertIs(calm(self, may_open, packet(body)), due, body)


class Opening(unittest.TestCase):
    def ask(self, value, moment, given, by=None, version=1, room=256):
        return calm(self, opened, value, moment, given, by or plan(), version, room)

    def drop(self, word, value, moment, given, by=None, version=1, room=256):
        found, answer = self.ask(value, moment, given, by, version, room)
        self.assertEqual(answer, ("drop", word))
        same_but(self, value, found)

    def test_passed(self):
        for kind, body in ASKS.items():
            given, value = packet(body), book(2, 1)
            found, answer = self.ask(value, 100, given, version=7)
            first = way_of(given)
            talk = begun(body) if kind == "tcp" else None
            flow = (3, first, turned(first), "asked", 100 + ASKED[kind], 7, TIMES, None, talk)
            same_but(self, value, found, next=5, flows={3: flow}, ways={first: (3, 0), turned(first): (3, 1)})
            self.assertEqual(answer, ("out", packet(body, hops=63), 3, 0))
            self.assertIs(type(answer), tuple)

    def test_with_a_pool(self):
        for kind, body in ASKS.items():
            given, value = packet(body), book()
            found, answer = self.ask(value, 100, given, plan(of=pool()))
            first = way_of(given)
            back = (kind, first[3], first[4], OWN, 40000)
            hold = (pool(),) + first[:3]
            flow = (1, first, back, "asked", 100 + ASKED[kind], 1, TIMES, hold, begun(body) if kind == "tcp" else None)
            same_but(self, value, found, next=2, flows={1: flow}, ways={first: (1, 0), back: (1, 1)},
                     bindings={hold: (OWN, 40000, 1)})
            self.assertEqual(answer, ("out", moved(packet(body, hops=63), turned(back)), 1, 0))
            self.assertEqual(way_of(answer[1])[1:3], (OWN, 40000))

    def test_with_a_target(self):
        for kind, body in ASKS.items():
            given, value = packet(body, ROUTER, OWN), book()
            target = (HOST, 0 if kind == "echo" else 8080)
            found, answer = self.ask(value, 100, given, plan(target))
            first = way_of(given)
            back = (kind,) + target + first[1:3]
            self.assertEqual(found["ways"], {first: (1, 0), back: (1, 1)})
            self.assertEqual(answer[1], moved(packet(body, ROUTER, OWN, 63), turned(back)))
            self.assertEqual((answer[1][1], answer[1][2]), (ROUTER, HOST))

    def test_with_both(self):
        given, value = packet(udp(), PC, OWN), book()
        found, answer = self.ask(value, 100, given, plan((HOST, 53), pool()))
        self.assertEqual(way_of(answer[1]), ("udp", OWN, 40000, HOST, 53))
        self.assertEqual(found["flows"][1][2], ("udp", HOST, 53, OWN, 40000))
        self.assertEqual(found["bindings"], {(pool(), "udp", PC, 40000): (OWN, 40000, 1)})

    def test_a_binding_is_held_again(self):
        value, _ = enter(self, book(), 5, packet(udp()), plan(of=pool()))
        found, answer = self.ask(value, 6, packet(udp(), target=ROUTER), plan(of=pool()))
        self.assertEqual(answer[1][1:3], (OWN, ROUTER))
        key = (pool(), "udp", PC, 40000)
        self.assertEqual(found["bindings"], {key: (OWN, 40000, 2)})
        self.assertEqual([flow[7] for flow in found["flows"].values()], [key, key])
        self.assertEqual(found["next"], 3)

    def test_ends_of_other_pools_and_kinds(self):
        value, _ = enter(self, book(), 5, packet(udp()), plan(of=pool()))
        other = pool((OWN,), 40000, 40001)
        found, answer = self.ask(value, 6, packet(udp(), target=ROUTER), plan(of=other))
        self.assertEqual(way_of(answer[1])[1:3], (OWN, 40001))
        found, answer = self.ask(found, 6, packet(ASKS["tcp"]), plan(of=other))
        self.assertEqual(way_of(answer[1])[1:3], (OWN, 40000))

    def test_hops(self):
        value, _ = enter(self, book(), 5, packet(udp()))
        for by in (plan(), plan(of=pool())):
            self.drop("hops", value, 6, packet(udp(1, 2), hops=1), by)
            # It is told ahead of all other words.
            self.drop("hops", value, 6, packet(udp(), hops=1), by, room=1)
        self.assertEqual(self.ask(value, 6, packet(udp(1, 2), hops=2))[1][1][3], 1)

    def test_full(self):
        value = book()
        for number in range(1, 5):
            given = packet(udp(number))
            for room in range(1, number):
                self.drop("full", value, 6, given, plan(of=pool()), room=room)
            value, _ = self.ask(value, 6, given, room=number)
        # It is told ahead of "ports" and "alike".
        self.drop("full", value, 6, packet(udp(1)), room=4)
        self.drop("full", value, 6, packet(udp(9)), plan(of=pool((OWN,), 40001, 40000)), room=3)
        self.drop("alike", value, 6, packet(udp(1)), room=5)

    def test_the_greatest_room(self):
        value = book()
        for number in range(1, 257):
            value, answer = opened(value, 6, packet(udp(number)), plan(), 1, 256)
            self.assertEqual(answer[0], "out")
        self.drop("full", value, 6, packet(udp(500)))
        self.assertEqual(sorted(value["flows"]), list(range(1, 257)))

    def test_ports(self):
        of, value = pool((OWN,), 40000, 40001), book()
        for number in (1, 2):
            value, answer = self.ask(value, 6, packet(udp(number)), plan(of=of))
            self.assertEqual(way_of(answer[1])[2], 39999 + number)
        self.drop("ports", value, 6, packet(udp(3)), plan(of=of))
        # It is told ahead of "alike".
        self.drop("ports", value, 6, packet(udp(3), target=PC, hops=9), plan((PC, 3), of))
        self.assertEqual(self.ask(value, 6, packet(echo()), plan(of=of))[1][0], "out")
        self.assertEqual(self.ask(value, 6, packet(udp(2), target=ROUTER), plan(of=of))[1][0], "out")

    def test_alike(self):
        value, _ = enter(self, book(), 5, packet(udp()))
        # First, or back, is a way of the book, whichever side it is of.
        self.drop("alike", value, 6, packet(udp()))
        self.drop("alike", value, 6, packet(udp(53, 40000), SERVER, PC))
        self.drop("alike", value, 6, packet(udp(40000, 99), PC, OWN), plan((SERVER, 53)))
        self.drop("alike", value, 6, packet(udp(53, 99), SERVER, OWN), plan((PC, 40000)))
        self.assertEqual(self.ask(value, 6, packet(udp(40000, 99), PC, OWN), plan((SERVER, 54)))[1][0], "out")
        # First and back are equal.
        self.drop("alike", value, 6, packet(udp(9, 9), PC, PC))
        self.drop("alike", value, 6, packet(udp(9, 40000), HOST, OWN), plan((HOST, 9), pool()))
        self.assertEqual(self.ask(value, 6, packet(udp(9, 10), PC, PC))[1][0], "out")

    def test_alike_on_one_side_alone(self):
        value, _ = enter(self, book(), 5, packet(udp()), plan(of=pool()))
        # First is a way of the book, back is none; then the other way round.
        self.drop("alike", value, 6, packet(udp()))
        self.drop("alike", value, 6, packet(udp(40000, 7), OWN, HOST), plan((SERVER, 53)))
        self.assertEqual(self.ask(value, 6, packet(udp(40000, 7), OWN, HOST))[1][0], "out")

    def test_refused_with_a_pool_takes_no_end(self):
        of = pool((OWN,), 40000, 40000)
        value, _ = enter(self, book(), 5, packet(udp(7, 53), SERVER, OWN), plan((PC, 53)))
        value, _ = enter(self, value, 5, packet(udp(40000, 53), OWN, SERVER))
        self.drop("alike", value, 6, packet(udp(7, 53)), plan(of=of))
        self.assertEqual(value["bindings"], {})

    def test_the_times_of_the_plan(self):
        times = ("times",) + tuple(range(101, 110))
        for body, due in ((ASKS["tcp"], 101), (udp(), 106), (echo(), 108)):
            found, _ = self.ask(book(), 50, packet(body), plan(times=times))
            self.assertEqual(found["flows"][1][4:7], (50 + due, 1, times))


class Numbers(unittest.TestCase):
    def test_numbers_of_flows(self):
        for workers in range(1, 5):
            for part in range(workers):
                value = book(workers, part)
                for at in range(1, 5):
                    value, answer = enter(self, value, 0, packet(udp(at)))
                    self.assertEqual(answer[2], part + at * workers)
                # A number is not given twice.
                value = swept(value, 1000)
                value, answer = enter(self, value, 1000, packet(udp(1)))
                self.assertEqual(answer[2], part + 5 * workers)


class Sweeping(unittest.TestCase):
    def test_one_moment_before_a_due_and_at_it(self):
        for kind, body in ASKS.items():
            value, _ = enter(self, book(), 100, packet(body))
            due = 100 + ASKED[kind]
            for moment in (100, due - 1):
                same_but(self, value, calm(self, swept, value, moment))
            for moment in (due, due + 1, due + 1000):
                same_but(self, value, calm(self, swept, value, moment), flows={}, ways={})

    def test_ends_rest_from_their_dues_on(self):
        value, _ = enter(self, book(), 100, packet(udp()), plan(of=pool()))
        for moment in (130, 131, 189):
            found = calm(self, swept, value, moment)
            same_but(self, value, found, flows={}, ways={}, bindings={}, resting={("udp", OWN, 40000): 190})
        for moment in (190, 191, 5000):
            same_but(self, value, calm(self, swept, value, moment), flows={}, ways={}, bindings={})

    def test_a_binding_goes_with_its_last_flow(self):
        value, _ = enter(self, book(), 100, packet(udp()), plan(of=pool()))
        value, _ = enter(self, value, 107, packet(udp(), target=ROUTER), plan(of=pool()))
        key = (pool(), "udp", PC, 40000)
        self.assertEqual(swept(value, 129)["bindings"], {key: (OWN, 40000, 2)})
        for moment in (130, 136):
            found = swept(value, moment)
            self.assertEqual((found["bindings"], found["resting"]), ({key: (OWN, 40000, 1)}, {}))
            self.assertEqual(list(found["flows"]), [2])
        found = swept(value, 137)
        self.assertEqual((found["bindings"], found["resting"]), ({}, {("udp", OWN, 40000): 197}))
        self.assertEqual(swept(value, 150), found)

    def test_59_60_and_61_moments_behind_an_end(self):
        of = pool((OWN,), 40000, 40000)
        value, _ = enter(self, book(), 100, packet(udp()), plan(of=of))
        for moment, due in ((129, "ports"), (130, "ports"), (189, "ports"), (190, None), (191, None)):
            found, answer = carry(value, moment, packet(udp(7)))
            found, answer = opened(found, moment, packet(udp(7)), plan(of=of), 1, 256)
            self.assertEqual(answer if due else answer[0], ("drop", due) if due else "out", moment)
            # Ends of other kinds do not rest with it.
            self.assertEqual(opened(found, moment, packet(echo()), plan(of=of), 1, 256)[1][0], "out")


class Carrying(unittest.TestCase):
    def setUp(self):
        self.values = {}
        for kind, body in ASKS.items():
            value, answer = enter(self, book(), 100, packet(body), plan(of=pool()))
            self.values[kind] = value

    def ask(self, value, moment, given):
        found = calm(self, carry, value, moment, given)
        for name in DICTS:
            self.assertIsNot(found[0][name], value[name])
        return found

    def ways(self, kind):
        flow = self.values[kind]["flows"][1]
        return flow[1], flow[2]

    def test_a_way_that_is_none_of_the_book(self):
        for kind, value in self.values.items():
            first, back = self.ways(kind)
            for way in ((kind, PC, first[2], SERVER + 1, first[4]), turned(first), turned(back)):
                found, answer = self.ask(value, 101, packet_by(way, hops=1))
                self.assertEqual(answer, ("new",))
                same_but(self, value, found)
        # What is over is swept in any case.
        found, answer = self.ask(self.values["udp"], 130, packet(udp()))
        self.assertEqual(answer, ("new",))
        self.assertEqual(found, swept(self.values["udp"], 130))

    def test_hops(self):
        for kind, value in self.values.items():
            for way in self.ways(kind):
                for given in (packet_by(way, 1), failure_by(way, ROUTER, hops=1)):
                    found, answer = self.ask(value, 101, given)
                    self.assertEqual(answer, ("drop", "hops"))
                    same_but(self, value, found)

    def test_from_the_opener(self):
        for kind in ("udp", "echo"):
            value, (first, back) = self.values[kind], self.ways(kind)
            given = packet_by(first, 2)
            found, answer = self.ask(value, 105, given)
            self.assertEqual(answer, ("out", moved(packet_by(first, 1), turned(back)), 1, 0))
            flow = value["flows"][1]
            flow = flow[:4] + (105 + ASKED[kind],) + flow[5:]
            same_but(self, value, found, flows={1: flow})

    def test_from_the_answerer(self):
        for kind in ("udp", "echo"):
            value, (first, back) = self.values[kind], self.ways(kind)
            found, answer = self.ask(value, 105, packet_by(back))
            self.assertEqual(answer, ("out", moved(packet_by(back, 63), turned(first)), 1, 1))
            flow = value["flows"][1]
            flow = flow[:3] + ("open", 105 + OPEN[kind]) + flow[5:]
            same_but(self, value, found, flows={1: flow})
            # From then on it is open, whoever speaks.
            found, answer = self.ask(found, 106, packet_by(first))
            self.assertEqual(found["flows"][1], flow[:4] + (106 + OPEN[kind],) + flow[5:])

    def test_one_moment_before_the_due_and_at_it(self):
        for kind in ("udp", "echo"):
            value, (first, back) = self.values[kind], self.ways(kind)
            due = 100 + ASKED[kind]
            for way in (first, back):
                self.assertEqual(self.ask(value, due - 1, packet_by(way))[1][0], "out")
                found, answer = self.ask(value, due, packet_by(way))
                self.assertEqual((answer, found), (("new",), swept(value, due)))

    def test_the_times_of_the_flow_stay(self):
        other = ("times",) + (1,) * 9
        value, _ = enter(self, self.values["udp"], 101, packet(udp(9)), plan(times=other), 2)
        found, _ = self.ask(value, 101, packet(udp()))
        self.assertEqual(found["flows"][1][4:7], (131, 1, TIMES))
        found, _ = self.ask(value, 101, packet(udp(9)))
        self.assertEqual(found["flows"][2][4:7], (102, 2, other))


class Segments(unittest.TestCase):
    """Point 148, 5: packets of tcp."""

    def setUp(self):
        self.value, answer = enter(self, book(), 100, packet(tcp(2, 1000, 0, 500)), plan(of=pool()))
        flow = self.value["flows"][1]
        self.first, self.back = flow[1], flow[2]

    def step(self, value, moment, side, segment, word=None):
        """Carry a segment of a side; check the answer by the talk alone."""
        way = self.back if side else self.first
        given = packet_by(way, segment=segment)
        number, = value["flows"]
        flow = value["flows"][number]
        due, talk = tracked(flow[8], side, segment)
        if word:
            self.assertEqual(due, word)
        found, answer = calm(self, carry, value, moment, given)
        if due == "new":
            self.assertEqual(answer, ("new",))
            return found
        if due not in ("fits", "again"):
            self.assertEqual(answer, ("drop", due))
            same_but(self, value, found)
            return found
        out = turned(self.first if side else self.back)
        self.assertEqual(answer, ("out", moved(given[:3] + (63,) + given[4:], out), number, side))
        times = dict(zip(("asked", "answered", "open", "closing", "over"), TIMES[1:6]))
        until = moment + times[talk[0]] if due == "fits" else flow[4]
        flow = flow[:3] + (talk[0], until) + flow[5:8] + (talk,)
        same_but(self, value, found, flows={number: flow})
        return found

    def whole(self):
        """Return the book of a talk that is over, and its moment."""
        value = self.step(self.value, 101, 1, tcp(18, 5000, 1001, 400), "fits")
        value = self.step(value, 102, 0, tcp(16, 1001, 5001, 500), "fits")
        value = self.step(value, 103, 0, tcp(17, 1001, 5001, 500), "fits")
        value = self.step(value, 104, 1, tcp(17, 5001, 1002, 400), "fits")
        return self.step(value, 105, 0, tcp(16, 1002, 5002, 500), "fits"), 105

    def test_each_state_has_its_time(self):
        value = self.step(self.value, 101, 1, tcp(18, 5000, 1001, 400), "fits")
        self.assertEqual(value["flows"][1][3:5], ("answered", 121))
        value = self.step(value, 102, 0, tcp(16, 1001, 5001, 500, data=(1, 2)), "fits")
        self.assertEqual(value["flows"][1][3:5], ("open", 402))
        value = self.step(value, 103, 1, tcp(17, 5001, 1003, 400), "fits")
        self.assertEqual(value["flows"][1][3:5], ("closing", 143))
        value = self.step(value, 104, 0, tcp(17, 1003, 5002, 500), "fits")
        self.assertEqual(value["flows"][1][3:5], ("closing", 144))
        value = self.step(value, 105, 1, tcp(16, 5002, 1004, 400), "fits")
        self.assertEqual(value["flows"][1][3:5], ("over", 120))

    def test_again_moves_no_due(self):
        value = self.step(self.value, 105, 0, tcp(2, 1000, 0, 500), "again")
        self.assertEqual(value["flows"][1][4], 110)
        value = self.step(value, 109, 0, tcp(2, 1000, 0, 500), "again")
        self.assertEqual(carry(value, 110, packet_by(self.first, segment=tcp(2, 1000)))[1], ("new",))
        value, moment = self.whole()
        value = self.step(value, 119, 0, tcp(16, 1002, 5002), "again")
        self.assertEqual(value["flows"][1][3:5], ("over", 120))
        self.assertEqual(carry(value, 120, packet_by(self.first, segment=tcp(16, 1002, 5002)))[1], ("new",))

    def test_words_of_what_is_dropped(self):
        self.step(self.value, 101, 0, tcp(0, 1000), "odd")
        self.step(self.value, 101, 0, tcp(2, 1000, data=(1,)), "odd")
        self.step(self.value, 101, 0, tcp(2, 1001), "state")
        self.step(self.value, 101, 1, tcp(16, 5000, 1001), "state")
        value = self.step(self.value, 101, 1, tcp(18, 5000, 1001, 400), "fits")
        value = self.step(value, 102, 0, tcp(16, 1001, 5001, 500), "fits")
        self.step(value, 103, 0, tcp(16, 1002 + 500, 5001), "window")
        self.step(value, 103, 1, tcp(16, 5001, 1001, data=(0,) * 501), "window")
        self.step(value, 103, 1, tcp(16, 5001, 1001, data=(0,) * 500), "fits")
        value, _ = self.whole()
        self.step(value, 106, 1, tcp(18, 5000, 1001), "over")

    def test_new(self):
        value, moment = self.whole()
        found = self.step(value, 110, 0, tcp(2, 1003), "new")
        resting = {("tcp", OWN, 40000): 170}
        same_but(self, value, found, flows={}, ways={}, bindings={}, resting=resting)
        # Another talk may begin, which has another end.
        found, answer = opened(found, 110, packet_by(self.first, segment=tcp(2, 1003)), plan(of=pool()), 4, 1)
        self.assertEqual(way_of(answer[1])[1:3], (OWN, 40001))
        self.assertEqual((answer[2], found["flows"][2][3:6]), (2, ("asked", 120, 4)))

    def test_new_with_other_holders(self):
        value, _ = enter(self, self.value, 101, packet(tcp(2, 7), target=ROUTER), plan(of=pool()))
        value, answer = carry(value, 102, packet_by(self.back, segment=tcp(20, 0, 1001)))
        self.assertEqual((answer[0], value["flows"][1][3]), ("out", "over"))
        value, answer = carry(value, 103, packet_by(self.first, segment=tcp(2, 1002)))
        self.assertEqual((answer, list(value["flows"])), (("new",), [2]))
        self.assertEqual(value["bindings"], {(pool(), "tcp", PC, 40000): (OWN, 40000, 1)})
        self.assertEqual(value["resting"], {})

    def test_hops_are_asked_ahead_of_the_talk(self):
        value, _ = self.whole()
        given = packet_by(self.first, 1, segment=tcp(2, 1003))
        found, answer = calm(self, carry, value, 110, given)
        self.assertEqual(answer, ("drop", "hops"))
        same_but(self, value, found)


class Failures(unittest.TestCase):
    """Point 148, 3."""

    def check(self, value, way, out, source, **fields):
        given = failure_by(way, source, **fields)
        self.assertIsNone(fault(given))
        number, side = value["ways"][way]
        found, answer = calm(self, carry, value, 101, given)
        sent = moved_failure(value["ground"], given, way, out)
        self.assertEqual(answer, ("out", sent, number, side))
        same_but(self, value, found)
        return answer[1]

    def test_udp_and_echo(self):
        for body in (udp(), echo()):
            value, _ = enter(self, book(), 100, packet(body), plan(of=pool()))
            flow = value["flows"][1]
            first, back = flow[1], flow[2]
            for total in (0, 1, 0x1234, 65535):
                sent = self.check(value, back, turned(first), ROUTER, total=total)
                self.assertEqual((sent[1], sent[2], sent[3]), (ROUTER, PC, 63))
                sent = self.check(value, back, turned(first), SERVER, kind="unreachable", code=4, room=1400, total=total)
                self.assertEqual((sent[1], sent[2]), (SERVER, PC))
                sent = self.check(value, first, turned(back), PC, kind="unreachable", code=3, total=total)
                self.assertEqual((sent[1], sent[2]), (OWN, SERVER))
                sent = self.check(value, first, turned(back), HOST, total=total)
                self.assertEqual((sent[1], sent[2]), (OWN, SERVER))

    def quotes(self, value, way, seq, due):
        found, answer = calm(self, carry, value, 103, failure_by(way, ROUTER, seq=seq % MOST))
        same_but(self, value, found)
        self.assertEqual(answer[0] if due else answer, "out" if due else ("drop", "quoted"), seq)

    def test_of_a_talk_without_an_answerer(self):
        value, _ = enter(self, book(), 100, packet(tcp(2, 1000)), plan(of=pool()))
        first, back = value["flows"][1][1:3]
        for seq, due in ((1000, True), (999, False), (1001, False), (0, False)):
            self.quotes(value, back, seq, due)
            self.quotes(value, first, seq, False)
        value, answer = carry(value, 101, packet_by(back, segment=tcp(20, 0, 1001)))
        self.assertEqual(value["flows"][1][3], "over")
        self.quotes(value, back, 1000, True)
        self.quotes(value, back, 1001, False)

    def test_both_ends_of_what_may_be_quoted(self):
        for start, other in ((1000, 5000), (MOST - 2, 10), (30, MOST - 1)):
            value, _ = enter(self, book(), 100, packet(tcp(2, start, 0, 500)), plan(of=pool()))
            first, back = value["flows"][1][1:3]
            value, _ = carry(value, 101, packet_by(back, segment=tcp(18, other, (start + 1) % MOST, 400)))
            # x's end is start + 1, y's wide is 400.
            for behind, due in ((-1, False), (0, True), (1, True), (399, True), (400, True), (401, False)):
                self.quotes(value, back, start + 1 - behind, due)
            for behind, due in ((-1, False), (0, True), (1, True), (499, True), (500, True), (501, False)):
                self.quotes(value, first, other + 1 - behind, due)

    def test_sizes_do_not_matter(self):
        value, _ = enter(self, book(), 100, packet(tcp(2, 1000)))
        first, back = value["flows"][1][1:3]
        for size in (40, 1500):
            stub = stub_by(turned(back))
            given = packet(failure(stub=stub[:7] + (size,) + stub[8:]), ROUTER, PC)
            self.assertEqual(calm(self, carry, value, 101, given)[1][0], "out")

    def test_the_way_is_that_of_what_is_quoted(self):
        value, _ = enter(self, book(), 100, packet(udp()), plan(of=pool()))
        given = packet(failure(stub=udp_stub()), ROUTER, OWN)
        # It quotes the inside end, which nobody outside has seen: its way is none of the book's.
        self.assertEqual(carry(value, 101, given)[1], ("new",))


class Cutting(unittest.TestCase):
    def build(self):
        value = book(2, 1)
        for version, at in ((3, 1), (1, 2), (2, 3), (1, 4), (3, 5)):
            value, _ = enter(self, value, 100, packet(udp(at)), plan(of=pool()), version)
        return value

    def test_lesser_versions_are_cut(self):
        value = self.build()
        for version, due in ((0, []), (1, []), (2, [5, 9]), (3, [5, 7, 9]), (4, [3, 5, 7, 9, 11]), (99, [3, 5, 7, 9, 11])):
            found, numbers = calm(self, cut_below, value, 110, version)
            self.assertEqual(numbers, due)
            self.assertIs(type(numbers), list)
            flows = {number: flow for number, flow in value["flows"].items() if number not in due}
            ways = {way: pair for way, pair in value["ways"].items() if pair[0] in flows}
            held_by = [flow[7] for flow in flows.values()]
            bindings = {key: row for key, row in value["bindings"].items() if key in held_by}
            resting = {("udp",) + row[:2]: 170 for key, row in value["bindings"].items() if key not in held_by}
            same_but(self, value, found, flows=flows, ways=ways, bindings=bindings, resting=resting)

    def test_it_is_swept_first(self):
        value = self.build()
        value, _ = carry(value, 120, packet(udp(2)))
        found, numbers = calm(self, cut_below, value, 130, 2)
        # All others were over by themselves at 130: they are not cut.
        self.assertEqual((numbers, found["flows"]), ([5], {}))
        found, numbers = calm(self, cut_below, value, 140, 2)
        self.assertEqual(numbers, [5])
        self.assertEqual(sorted(found["resting"].values()), [190, 190, 190, 190, 200])

    def test_shared_bindings(self):
        value, _ = enter(self, book(), 100, packet(udp()), plan(of=pool()), 1)
        value, _ = enter(self, value, 100, packet(udp(), target=ROUTER), plan(of=pool()), 2)
        found, numbers = cut_below(value, 101, 2)
        self.assertEqual((numbers, found["resting"]), ([1], {}))
        self.assertEqual(list(found["bindings"].values()), [(OWN, 40000, 1)])

    def test_held(self):
        value = self.build()
        for version, due in ((0, False), (1, True), (2, True), (3, True), (4, False)):
            self.assertIs(calm(self, held, value, version), due)
        self.assertIs(held(cut_below(value, 101, 3)[0], 2), False)
        self.assertIs(held(book(), 1), False)


if __name__ == "__main__":
    unittest.main()
