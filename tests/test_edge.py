"""Points 703, 713, 720 to 724 and 740 to 745: the edge, step by step."""

import copy
import random
import unittest

from onepolicy.edge import Edge
from onepolicy.errors import Misstep, Wrong
from onepolicy.plain import Plain
from onepolicy.realize import settle
from onepolicy.steering import mixed
from onepolicy.versions import values_of_policy
from edge_runs import random_run, versions_of
from edge_samples import CLIENT, ask_packet, ground, octets_of, policy, request, syn, text
from samples import PC, SERVER, packet, udp
from table_samples import ODD

TICK = ("arrive", 0, ("tick",))


class Case(unittest.TestCase):
    workers = 2

    def setUp(self):
        self.edge = Edge(ground(self.workers), policy())

    def seen(self):
        """Return all that is told of the edge."""
        edge = self.edge
        return copy.deepcopy((edge.links(), edge.kept(), edge.lives(), edge.stamped(), edge.log()))

    def step(self, *step):
        """Make a step; what is handed in does not change; return the rows of the log that it brings."""
        before, many = copy.deepcopy(step), len(self.edge.log())
        self.assertIsNone(self.edge.step(step))
        self.assertEqual(step, before)
        return self.edge.log()[many:]

    def refuse(self, word, step):
        """Look at a step that is not possible, behind which nothing is changed."""
        seen = self.seen()
        with self.assertRaises(Misstep) as caught:
            self.edge.step(step)
        self.assertEqual((step, caught.exception.word), (step, word))
        self.assertEqual(self.seen(), seen)

    def deliver(self, a, b, many=1):
        """Deliver the first messages of a link."""
        return [row for _ in range(many) for row in self.step("deliver", a, b, 0)]

    def settle(self):
        rows = []
        for step in settle(self.edge):
            rows += self.step(*step)
        return rows

    def rows(self, a, b):
        return self.edge.links()[(a, b)]


class Beginnings(Case):
    def test_at_first(self):
        edge = self.edge
        self.assertEqual(list(edge.links()), [("door", 0), (0, "door"), ("door", 1), (1, "door")])
        self.assertEqual(list(edge.links().values()), [[], [], [], []])
        self.assertEqual(edge.kept(), {link: ([], (1, [])) for link in edge.links()})
        self.assertEqual(list(edge.kept()), list(edge.links()))
        self.assertEqual(edge.lives(), [(1, 1, True), (1, 1, True)])
        self.assertEqual((edge.stamped(), edge.log()), ((1, None), []))
        self.assertEqual(edge.version(1), (policy(), 0))
        self.assertEqual(Edge(ground(), policy(keep="cut")).version(1)[1], 1)

    def test_wrong_policies(self):
        for value, word, place in ((None, "form", None), (policy(room=0), "room", None), (policy(routes=(5,)), "route", 0)):
            with self.assertRaises(Wrong) as caught:
                Edge(ground(), value)
            self.assertEqual((caught.exception.word, caught.exception.place), (word, place))

    def test_versions(self):
        for number in ODD + (0, 2, -1, [1], (1,), 1.0, "1"):
            with self.assertRaises(Misstep) as caught:
                self.edge.version(number)
            self.assertEqual(caught.exception.word, "version")


class Forms(Case):
    def test_form(self):
        for step in ODD + (("arrive",), ("arrive", 0), TICK + (1,), list(TICK), ("x",), ("Arrive", 0, ("tick",)), ("bring",), ("bring", policy(), 1),
                           ("deliver", "door", 0), ("lose", "door", 0), ("double", 0, "door", 0, 0), ("again", 0), ("again", 0, "door", 0),
                           ("anew",), ("anew", 0, 0), ("fall", 0), (["anew"], 0), (None, 0), ((), 0)):
            self.refuse("form", step)

    def test_links(self):
        for word in ("deliver", "lose", "double", "again"):
            for a, b in (("door", "door"), (0, 1), (0, 0), ("door", 2), (2, "door"), ("door", -1), ("door", True), (False, "door"),
                         ("door", None), (None, None), ("Door", 0), ([], "door"), ("door", {}), ("door", "0"), (0.0, "door"), (0, "edge")):
                self.refuse("link", (word, a, b) if word == "again" else (word, a, b, 0))

    def test_messages(self):
        self.step(*TICK)
        for word in ("deliver", "lose", "double"):
            for index in (1, -1, None, True, False, "0", 0.0, [0], (0,), {}):
                self.refuse("message", (word, "door", 0, index))
            self.refuse("message", (word, 0, "door", 0))
            self.refuse("link", (word, "door", 5, 9))

    def test_nothing(self):
        for link in self.edge.links():
            self.refuse("nothing", ("again",) + link)

    def test_workers(self):
        for w in (2, -1, None, True, False, "0", 0.0, [0], "door", (0,)):
            self.refuse("worker", ("anew", w))

    def test_words_of_the_door(self):
        for arrival in ODD:
            self.refuse("form", ("arrive", 0, arrival))
        self.refuse("form", ("arrive", -1, ("tick",)))
        self.step("arrive", 5, ("tick",))
        self.refuse("moment", ("arrive", 4, ("tick",)))
        self.refuse("connection", ("arrive", 5, ("inside", (1, 0), 1, "broken")))

    def test_bring(self):
        for value, word, place in ((None, "form", None), (policy(keep=1), "keep", None), (policy(trusted=(5,)), "trusted", 0)):
            seen = self.seen()
            with self.assertRaises(Wrong) as caught:
                self.edge.step(("bring", value))
            self.assertEqual((caught.exception.word, caught.exception.place), (word, place))
            self.assertEqual(self.seen(), seen)
        self.step("bring", policy())
        # While a version is ordered, that is told first.
        self.refuse("order", ("bring", policy()))
        self.refuse("order", ("bring", None))


class Events(Case):
    def test_arrivals(self):
        given = octets_of(ask_packet())
        w = mixed(CLIENT) % 2
        event = ("packet", "out", given)
        self.assertEqual(self.step("arrive", 3, ("packet", "out", list(given))), [("came", 1, 3, 1, w, event)])
        self.assertEqual(self.rows("door", w), [("data", 1, 1, ("event", 1, 3, 1, event))])
        self.assertEqual(self.edge.kept()[("door", w)][0], self.rows("door", w))
        self.assertEqual(self.step("arrive", 4, ("tick",)), [("came", 2, 4, 1, 0, ("tick",)), ("came", 3, 4, 1, 1, ("tick",))])
        self.assertEqual(self.rows("door", 1 - w), [("data", 1, 1, ("event", 3 - w, 4, 1, ("tick",)))] if w else self.rows("door", 1))

    def test_pieces_that_bring_nothing_and_two_events(self):
        row = text("GET / E/1") + list(b"x")
        self.assertEqual(self.step("arrive", 0, ("piece", 1, CLIENT, row[:5])), [])
        w = mixed(CLIENT) % 2
        self.assertEqual(self.step("arrive", 1, ("piece", 1, CLIENT, row[5:])), [
            ("came", 1, 1, 1, w, ("request", (1, 0), CLIENT, request())), ("came", 2, 1, 1, w, ("fault", (1, 1), CLIENT, "method"))])

    def test_taking(self):
        self.step("arrive", 3, ("packet", "out", octets_of(ask_packet())))
        self.step("arrive", 9, ("piece", 1, CLIENT, text("GET / E/1")))
        w = mixed(CLIENT) % 2
        plain, versions = Plain(ground(2), w, None), {1: (policy(), 0)}
        rows = self.deliver("door", w, 2)
        for row, came in zip(rows, self.edge.log()):
            outputs, fates = plain.take(versions, came[1], came[2], 1, came[5])
            self.assertEqual(row, ("did", came[1], tuple(outputs), tuple(fates)))
        self.assertEqual(len(rows), 2)
        self.assertEqual(self.rows(w, "door"), [("had", 1, 1), ("had", 1, 2)])
        self.assertEqual(self.edge.kept()[("door", w)][1], (3, []))
        self.assertEqual(len(self.edge.kept()[("door", w)][0]), 2)
        self.step("deliver", w, "door", 1)
        self.assertEqual(self.edge.kept()[("door", w)][0], [])

    def test_in_any_order(self):
        for moment in range(4):
            self.step("arrive", moment, ("tick",))
        for index, dids, had in ((2, [], 0), (0, [1], 1), (1, [], 1), (0, [3, 5, 7], 4)):
            self.assertEqual([row[1] for row in self.step("deliver", "door", 0, index)], dids)
            self.assertEqual(self.rows(0, "door")[-1], ("had", 1, had))
        self.assertEqual(self.rows("door", 0), [])

    def test_lost_doubled_and_sent_again(self):
        self.step(*TICK)
        self.assertEqual(self.step("double", "door", 0, 0), [])
        self.assertEqual(self.rows("door", 0), [("data", 1, 1, ("event", 1, 0, 1, ("tick",)))] * 2)
        self.step("lose", "door", 0, 0)
        self.step("lose", "door", 0, 0)
        self.assertEqual(self.rows("door", 0), [])
        self.step("again", "door", 0)
        self.step("again", "door", 0)
        self.assertEqual([row[0] for row in self.deliver("door", 0)], ["did"])
        # An event is done once.
        self.assertEqual(self.deliver("door", 0), [])
        self.assertEqual(self.rows(0, "door"), [("had", 1, 1)] * 2)
        self.deliver(0, "door", 2)
        self.refuse("nothing", ("again", "door", 0))

    def test_the_window(self):
        for moment in range(18):
            self.step("arrive", moment, ("tick",))
        self.assertEqual(self.step("deliver", "door", 0, 17), [])
        self.assertEqual(self.edge.kept()[("door", 0)][1], (1, []))
        self.assertEqual(self.step("deliver", "door", 0, 16), [])
        self.assertEqual([k for k, _ in self.edge.kept()[("door", 0)][1][1]], [17])


class Exchange(Case):
    def test_a_version_is_stamped(self):
        new = policy(room=5)
        self.assertEqual(self.step("bring", new), [])
        body = ("have", 2, values_of_policy(new), 0)
        for w in (0, 1):
            self.assertEqual(self.rows("door", w), [("data", 1, 1, body)])
        self.assertEqual((self.edge.stamped(), self.edge.version(2)), ((1, 2), (new, 0)))
        # Until it is stamped, events have the version before.
        self.assertEqual(self.step(*TICK)[0][3], 1)
        self.deliver("door", 0)
        # What a worker answers is put ahead of what it had.
        self.assertEqual(self.rows(0, "door"), [("data", 1, 1, ("has", 2)), ("had", 1, 1)])
        self.assertEqual(self.deliver(0, "door"), [])
        self.assertEqual(self.rows("door", 0)[-1], ("had", 1, 1))
        self.assertEqual(self.edge.stamped(), (1, 2))
        self.deliver("door", 1)
        self.assertEqual(self.deliver(1, "door"), [("stamp", 2)])
        self.assertEqual(self.edge.stamped(), (2, None))
        self.assertEqual([row[3] for row in self.step(*TICK)], [2, 2])
        self.assertEqual(self.edge.version(1), (policy(), 0))

    def fill(self, many=3):
        """Open flows at the worker of the client."""
        for port in range(many):
            self.step("arrive", 0, ("packet", "out", octets_of(ask_packet(port=4000 + port))))
        self.settle()
        return mixed(CLIENT) % 2

    def test_a_version_is_given_up(self):
        w = self.fill()
        self.step("bring", policy(room=2))
        for other in (0, 1):
            self.deliver("door", other)
        self.assertEqual(self.rows(w, "door")[0][3], ("not", 2, "room"))
        self.assertEqual(self.deliver(1 - w, "door"), [])
        self.assertEqual(self.deliver(w, "door"), [("gave up", 2, w, "room")])
        self.assertEqual(self.edge.stamped(), (1, None))
        # What the door sends is put ahead of what it had.
        self.assertEqual([message[3] if message[0] == "data" else message for message in self.rows("door", w)],
                         [("drop", 2), ("had", 1, 1)])
        self.assertEqual([message[3] if message[0] == "data" else message for message in self.rows("door", 1 - w)],
                         [("had", 1, 1), ("drop", 2)])
        with self.assertRaises(Misstep):
            self.edge.version(2)
        # Numbers are not given twice.
        self.step("bring", policy(room=3))
        self.assertEqual(self.edge.stamped(), (1, 3))
        self.assertEqual(self.settle(), [("stamp", 3)])

    def test_a_has_that_comes_behind_the_giving_up_counts_for_nothing(self):
        w = self.fill()
        self.step("bring", policy(room=2))
        for other in (0, 1):
            self.deliver("door", other)
        self.deliver(w, "door")
        self.assertEqual(self.deliver(1 - w, "door"), [])
        self.step("bring", policy(room=9))
        self.assertEqual(self.settle(), [("stamp", 3)])

    def test_each_not_is_told_once(self):
        for port in range(4):
            for source in (CLIENT, CLIENT + 1, CLIENT + 2, CLIENT + 3):
                self.step("arrive", 0, ("packet", "out", octets_of(ask_packet(source, 4000 + port))))
        self.settle()
        self.step("bring", policy(room=1))
        self.deliver("door", 1)
        self.deliver("door", 0)
        self.assertEqual(self.deliver(1, "door"), [("gave up", 2, 1, "room")])
        self.assertEqual(self.deliver(0, "door"), [])

    def test_cuts_of_versions(self):
        for keep, room, cut in (("stay", 64, 0), ("cut", 64, 3), ("stay", 64, 3), ("cut", 1, None), ("stay", 64, 3), ("cut", 64, 7),
                                ("stay", 64, 7)):
            self.fill()
            self.step("bring", policy(keep=keep, room=room))
            number = self.edge.stamped()[1]
            self.assertEqual(self.edge.version(number)[1], number if keep == "cut" else cut)
            rows = self.settle()
            self.assertEqual(rows, [("gave up", number, mixed(CLIENT) % 2, "room")] if cut is None else [("stamp", number)])
        self.assertEqual(self.edge.stamped(), (8, None))

    def test_cuts_behind_a_first_version_that_cuts(self):
        self.edge = Edge(ground(2), policy(keep="cut"))
        self.step("bring", policy())
        self.assertEqual((self.edge.version(1)[1], self.edge.version(2)[1]), (1, 1))

    def test_events_keep_their_version_under_way(self):
        self.step(*TICK)
        self.step("bring", policy(routes=()))
        for w in (0, 1):
            self.step("again", "door", w)
        rows = self.settle()
        self.assertEqual([row for row in rows if row[0] == "stamp"], [("stamp", 2)])
        self.assertEqual([row[3] for row in self.edge.log() if row[0] == "came"], [1, 1])

    def test_a_worker_has_its_version_until_it_takes_the_drop(self):
        w = self.fill()
        self.step("bring", policy(room=2))
        self.deliver("door", w)
        self.deliver(w, "door")
        self.step("arrive", 1, ("packet", "out", octets_of(ask_packet(port=4000))))
        self.assertEqual(self.settle()[-1][0], "did")


class Falls(Case):
    def test_begun_anew(self):
        self.step("arrive", 6, ("tick",))
        self.deliver("door", 0)
        self.step("arrive", 7, ("tick",))
        self.step("arrive", 8, ("piece", 1, CLIENT, text("GET / E/1")[:5]))
        self.assertEqual(self.step("anew", 0), [])
        self.assertEqual(self.edge.lives(), [(2, 1, False), (1, 1, True)])
        self.assertEqual(self.rows(0, "door"), [("had", 1, 1), ("here", 2)])
        # It takes nothing of its life before.
        self.assertEqual(self.deliver("door", 0), [])
        self.assertEqual(self.rows(0, "door"), [("had", 1, 1), ("here", 2)])
        self.assertEqual(self.edge.kept()[(0, "door")], ([], (1, [])))
        # The moment is that of the last event that came: what brought no event counts for nothing.
        self.assertEqual(self.step("deliver", 0, "door", 1), [("fell", 0, 7), ("lost", 3)])
        self.assertEqual(self.edge.lives(), [(2, 2, False), (1, 1, True)])
        body = ("go on", 2, 7, ((1, values_of_policy(policy()), 0),))
        self.assertEqual(self.rows("door", 0), [("data", 2, 1, body)])
        self.assertEqual(self.deliver("door", 0), [])
        self.assertEqual((self.edge.lives()[0], self.rows(0, "door")), ((2, 2, True), [("had", 1, 1), ("had", 2, 1)]))
        self.assertEqual(self.step("arrive", 9, ("tick",))[0], ("came", 5, 9, 1, 0, ("tick",)))
        self.assertEqual([row[:2] for row in self.deliver("door", 0)], [("did", 5)])

    def test_with_no_events_before(self):
        self.step("anew", 1)
        self.assertEqual(self.deliver(1, "door"), [("fell", 1, 0)])
        self.assertEqual(self.rows("door", 1)[0][3][:3], ("go on", 2, 0))

    def test_all_that_was_not_done_is_lost(self):
        for moment in range(5):
            self.step("arrive", moment, ("tick",))
        self.deliver("door", 1, 2)
        self.step("anew", 1)
        self.step("arrive", 5, ("tick",))
        self.assertEqual(self.deliver(1, "door", 3), [("fell", 1, 5)] + [("lost", n) for n in (6, 8, 10, 12)])
        self.assertEqual([row[:2] for row in self.settle()], [("did", n) for n in (1, 3, 5, 7, 9, 11)])

    def test_here(self):
        self.step("anew", 0)
        self.step("again", 0, "door")
        self.assertEqual(self.rows(0, "door"), [("here", 2)] * 2)
        self.step("anew", 0)
        self.step("anew", 0)
        self.assertEqual(self.rows(0, "door"), [("here", 2), ("here", 2), ("here", 3), ("here", 4)])
        self.assertEqual(self.step("deliver", 0, "door", 2), [("fell", 0, 0)])
        self.assertEqual(self.edge.lives()[0], (4, 3, False))
        # Of lives that are not greater nothing is told.
        self.step("double", 0, "door", 1)
        self.assertEqual(self.deliver(0, "door", 2), [])
        # What the door says to the life 3 is dropped by the life 4.
        self.assertEqual(self.deliver("door", 0), [])
        self.assertEqual((self.edge.lives()[0], len(self.rows(0, "door"))), ((4, 3, False), 2))
        self.assertEqual(self.deliver(0, "door"), [("fell", 0, 0)])
        self.deliver(0, "door")
        self.deliver("door", 0)
        self.assertEqual(self.edge.lives()[0], (4, 4, True))
        self.refuse("nothing", ("again", 0, "door"))

    def test_while_a_version_is_ordered(self):
        self.step("bring", policy(room=5))
        for w in (0, 1):
            self.deliver("door", w)
        self.deliver(0, "door")
        self.step("anew", 0)
        # The door has not heard of it: what it told counts, until then.
        twin = self.edge.twin()
        twin.step(("deliver", 1, "door", 0))
        self.assertEqual(twin.stamped(), (2, None))
        self.step("deliver", 0, "door", 1)
        self.assertEqual(self.deliver(1, "door"), [])
        body = self.rows("door", 0)[-1]
        self.assertEqual(body, ("data", 2, 1, ("go on", 2, 0, ((1, values_of_policy(policy()), 0), (2, values_of_policy(policy(room=5)), 0)))))
        self.step("deliver", "door", 0, len(self.rows("door", 0)) - 1)
        self.assertEqual(self.rows(0, "door")[-2:], [("data", 2, 1, ("has", 2)), ("had", 2, 1)])
        self.assertEqual(self.step("deliver", 0, "door", len(self.rows(0, "door")) - 2), [("stamp", 2)])

    def test_a_not_of_a_life_before_counts_for_nothing(self):
        for port in range(3):
            self.step("arrive", 0, ("packet", "out", octets_of(ask_packet(port=4000 + port))))
        self.settle()
        w = mixed(CLIENT) % 2
        self.step("bring", policy(room=1))
        self.deliver("door", w)
        self.step("anew", w)
        self.step("deliver", w, "door", 2)
        self.assertEqual(self.rows(w, "door")[0][3], ("not", 2, "room"))
        self.assertEqual(self.settle(), [("stamp", 2)])

    def test_a_drop_that_is_lost_with_a_life(self):
        for port in range(3):
            self.step("arrive", 0, ("packet", "out", octets_of(ask_packet(port=4000 + port))))
        self.settle()
        w = mixed(CLIENT) % 2
        self.step("bring", policy(room=1))
        self.deliver("door", w)
        self.deliver(w, "door")
        self.step("anew", w)
        self.assertEqual([row[0] for row in self.settle()], ["fell"])
        self.step("bring", policy(room=1))
        self.assertEqual(self.settle(), [("stamp", 3)])

    def test_ports_rest_behind_a_fall(self):
        self.step("arrive", 100, ("tick",))
        self.settle()
        for w in (0, 1):
            self.step("anew", w)
        self.settle()
        given = list(octets_of(syn()))
        self.step("arrive", 100, ("packet", "out", given))
        self.assertEqual(self.settle()[-1][3][0][0], "opened")
        rows = {}
        for moment in (159, 160):
            self.step("arrive", moment, ("packet", "in", octets_of(packet(udp(5000, 99), PC, SERVER))))
            rows[moment] = self.settle()[-1][3]
        self.assertEqual(rows[159], (("drop", "ports"),))
        self.assertEqual(rows[160][0][0], "opened")


class Sharing(Case):
    def test_nothing_is_shared(self):
        edge = self.edge
        value, octets = policy(), list(octets_of(ask_packet()))
        self.step("bring", value)
        self.step("arrive", 0, ("packet", "out", octets))
        seen = self.seen()
        value.clear()
        octets.clear()
        edge.links()[("door", 0)].clear()
        edge.links().clear()
        edge.kept().clear()
        edge.kept()[("door", 0)][0].clear()
        edge.lives().clear()
        edge.log().clear()
        edge.version(2)[0].clear()
        self.assertEqual(self.seen(), seen)
        self.assertEqual(edge.version(2), (policy(), 0))

    def test_twins_begin_where_the_other_one_is(self):
        self.step("arrive", 7, ("tick",))
        self.step("bring", policy(keep="cut"))
        self.settle()
        self.step("bring", policy(room=5))
        self.deliver("door", 0)
        self.deliver(0, "door")
        self.step("arrive", 8, ("piece", 3, CLIENT, text("GET / E/1")[:4]))
        self.step("anew", 1)
        twin = self.edge.twin()
        for step in [("deliver", 1, "door", 0), ("arrive", 9, ("tick",)), ("again", "door", 1), ("deliver", "door", 1, 0),
                     ("deliver", 1, "door", 0), ("arrive", 9, ("piece", 3, CLIENT, text("GET / E/1")[4:]))] + settle(self.edge):
            try:
                self.edge.step(step)
            except Misstep:
                self.assertRaises(Misstep, twin.step, step)
                continue
            twin.step(step)
            self.assertEqual((twin.links(), twin.kept(), twin.lives(), twin.stamped(), twin.log()), self.seen())
            for number in (1, 2):
                self.assertEqual(twin.version(number), self.edge.version(number))
        self.assertIn(("fell", 1, 7), twin.log())

    def test_twins_go_on_alone(self):
        self.step("bring", policy(room=9))
        self.step(*TICK)
        self.deliver("door", 0)
        seen, twin = self.seen(), self.edge.twin()
        for step in settle(twin) + [("arrive", 3, ("piece", 4, CLIENT, text("GET / E/1"))), ("anew", 0), ("bring", policy())]:
            twin.step(step)
        self.assertEqual(self.seen(), seen)
        self.assertEqual((twin.stamped(), twin.lives()[0]), ((2, 3), (2, 1, False)))
        other = self.edge.twin()
        self.settle()
        self.assertEqual((other.links(), other.kept(), other.lives(), other.stamped(), other.log()), seen)
        # The twin's door goes on with its own numbers, too.
        other.step(("arrive", 1, ("piece", 4, CLIENT, text("GET / E/1"))))
        self.step("arrive", 2, ("tick",))
        self.assertEqual((other.log()[-1][1], self.edge.log()[-1][1]), (3, 4))


class Runs(unittest.TestCase):
    """Point 745: runs beside plain workers that take the same events in the same order."""

    def check(self, edge):
        log, versions = edge.log(), versions_of(edge)
        workers = len(edge.lives())
        plains = [Plain(ground(workers), w, None) for w in range(workers)]
        came, ended, stamp, greatest = {}, {}, 1, [0] * workers
        for row in log:
            if row[0] == "came":
                self.assertEqual((row[1], row[3]), (len(came) + 1, stamp))
                came[row[1]] = row
            elif row[0] == "did":
                _, n, moment, v, w, event = came[row[1]]
                outputs, fates = plains[w].take(versions, n, moment, v, event)
                self.assertEqual(row, ("did", n, tuple(outputs), tuple(fates)))
                self.assertGreater(n, greatest[w])
                self.assertNotIn(n, ended)
                greatest[w] = ended[n] = n
            elif row[0] == "fell":
                plains[row[1]] = Plain(ground(workers), row[1], row[2])
            elif row[0] == "lost":
                self.assertNotIn(row[1], ended)
                ended[row[1]] = True
            elif row[0] == "stamp":
                self.assertGreater(row[1], stamp)
                stamp = row[1]
        # At rest every event is done or lost.
        self.assertEqual(sorted(ended), sorted(came))

    def test_runs(self):
        draw, words = random.Random(745), {}
        for _ in range(60):
            edge = random_run(draw, draw.randint(40, 300))
            self.check(edge)
            for row in edge.log():
                words[row[0]] = words.get(row[0], 0) + 1
        self.assertEqual(sorted(words), ["came", "did", "fell", "gave up", "lost", "stamp"])

    def test_stamps_and_lives_never_go_back(self):
        draw = random.Random(740)
        for _ in range(15):
            seen = [((1, None), [])]

            def after(edge):
                stamped, lives = edge.stamped(), edge.lives()
                self.assertGreaterEqual(stamped[0], seen[-1][0][0])
                for (life, spoken, goes_on), (old, told, _) in zip(lives, seen[-1][1]):
                    self.assertTrue(life >= old and spoken >= told and spoken <= life)
                    self.assertTrue(spoken == life or not goes_on)
                seen.append((stamped, lives))

            random_run(draw, 150, after)


if __name__ == "__main__":
    unittest.main()
