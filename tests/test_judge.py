"""Points 750 and 751: logs that are right, and logs with rows bent, left out, doubled, moved or put in."""

import copy
import random
import unittest

from onepolicy.edge import Edge
from onepolicy.judge import judge
from onepolicy.realize import realize
from onepolicy.steering import mixed
from edge_runs import random_run, versions_of
from edge_samples import CLIENT, OTHER, answer, ask_packet, ground, octets_of, policy, request, text
from samples import put
from table_samples import ODD

W = 2
A, B = mixed(CLIENT) % W, mixed(OTHER) % W
ONE = {1: (policy(), 0)}
TICKS = [("came", 1, 5, 1, 0, ("tick",)), ("came", 2, 5, 1, 1, ("tick",))]
DIDS = [("did", 1, (), ()), ("did", 2, (), ())]


def asked(n, connection=1, index=0, client=CLIENT, moment=5, given=None):
    return ("came", n, moment, 1, mixed(client) % W, ("request", (connection, index), client, given or request()))


def fault(n, connection=1, index=0, client=CLIENT, word="name"):
    return ("came", n, 5, 1, mixed(client) % W, ("fault", (connection, index), client, word))


def gone(n, connection=1, client=CLIENT):
    return ("came", n, 5, 1, mixed(client) % W, ("gone", connection, client))


def reacted(n, connection=1, index=0, k=1, reaction="broken", w=A):
    return ("came", n, 5, 1, w, ("inside", (connection, index), k, reaction))


class Case(unittest.TestCase):
    def check(self, log, due, versions=ONE, workers=W):
        before = copy.deepcopy((versions, log))
        found = judge(ground(workers), versions, log)
        self.assertEqual((found, log[due[0]:due[0] + 1] if due else None), (due, log[due[0]:due[0] + 1] if due else None))
        self.assertEqual((versions, log), before)
        if due:
            # What stands behind the first wrong row is not looked at.
            self.assertEqual(judge(ground(workers), versions, log[:due[0] + 1] + [None, log]), due)
            self.assertIsNone(judge(ground(workers), versions, log[:due[0]]))

    def wrong(self, ahead, row, word, versions=ONE):
        """Look at a row that is wrong behind right ones."""
        self.check(list(ahead) + [row], (len(ahead), word), versions)

    def right(self, log, versions=ONE):
        self.check(list(log), None, versions)


class Forms(Case):
    def test_right_ones(self):
        self.right([])
        self.right(TICKS)
        self.right(TICKS + DIDS)
        self.right(TICKS + DIDS[::-1])

    def test_rows_that_are_none(self):
        for row in ODD + (["came"], ("x",), ("Came", 1, 5, 1, 0, ("tick",)), TICKS[0][:5], TICKS[0] + (1,), list(TICKS[0]), (["came"], 1, 5, 1, 0, ("tick",)),
                          ("did", 1, ()), ("did", 1, (), (), ()), ("did", 1, [], ()), ("did", 1, (), []), ("did", 1, None, ()), ("stamp",),
                          ("stamp", 2, 3), ("gave up", 2, 0), ("gave up", 2, 0, "rooms"), ("gave up", 2, 0, None), ("fell", 0),
                          ("fell", 0, 5, 1), ("lost",), ("lost", 1, 2), ("lost", [1])):
            self.wrong(TICKS, row, "form")

    def test_numbers(self):
        for value in (-1, None, True, False, "1", 1.0, (1,), [1]):
            for at in (1, 2, 3, 4):
                self.wrong((), put(TICKS[0], (at,), value), "form")
            for row in (("did", value, (), ()), ("stamp", value), ("gave up", value, 0, "room"), ("lost", value), ("fell", value, 5),
                        ("fell", 0, value), ("gave up", 2, value, "room")):
                self.wrong(TICKS, row, "form")
        for row in (("did", 0, (), ()), ("stamp", 0), ("gave up", 0, 0, "room"), ("lost", 0), ("fell", 2, 5), ("gave up", 2, 2, "room")):
            self.wrong(TICKS, row, "form")
        # The number, the moment, the version and the worker of a came are from 0 on.
        self.wrong((), put(TICKS[0], (1,), 0), "number")
        self.wrong((), put(TICKS[0], (3,), 0), "stamp")
        self.wrong((), put(TICKS[0], (4,), 9), "worker")
        self.right([put(TICKS[0], (2,), 0)])

    def test_events(self):
        for event in ((), [], None, "tick", ["tick"], 5):
            self.wrong((), put(TICKS[0], (5,), event), "form")
        self.wrong((), put(TICKS[0], (5,), (None,)), "worker")


class Numbers(Case):
    def test_number(self):
        for n in (0, 2, 7):
            self.wrong((), put(TICKS[0], (1,), n), "number")
        for n in (0, 1, 2, 4):
            self.wrong(TICKS, put(asked(3), (1,), n), "number")

    def test_moment(self):
        self.wrong(TICKS, asked(3, moment=4), "moment")
        self.wrong(TICKS + [asked(3, moment=9)], asked(4, index=1, moment=8), "moment")
        self.right(TICKS + [asked(3, moment=5), asked(4, index=1, moment=99)])
        # A number goes ahead of it, and it ahead of the version.
        self.wrong(TICKS, asked(4, moment=4), "number")
        self.wrong(TICKS, put(asked(3, moment=4), (3,), 2), "moment")

    def test_stamp(self):
        versions = {number: (policy(), 0) for number in (1, 2, 5)}
        for v in (0, 2, 3):
            self.wrong((), put(TICKS[0], (3,), v), "stamp", versions)
        for row in (("stamp", 1), ("stamp", 3), ("gave up", 1, 0, "room")):
            self.wrong((), row, "stamp", versions)
        ahead = [("stamp", 2)]
        self.right(ahead + [put(row, (3,), 2) for row in TICKS], versions)
        for row in (("stamp", 2), ("gave up", 2, 0, "room"), ("gave up", 1, 0, "room"), TICKS[0], put(TICKS[0], (3,), 5)):
            self.wrong(ahead, row, "stamp", versions)
        ahead = [("gave up", 2, 1, "room"), ("gave up", 3, 0, "room")]
        for row in (("stamp", 2), ("gave up", 2, 0, "room"), ("gave up", 3, 0, "room"), ("stamp", 3), ("stamp", 4)):
            self.wrong(ahead, row, "stamp", versions)
        self.right(ahead + [("stamp", 5), ("gave up", 6, 0, "room"), ("gave up", 9, 0, "room")], versions)
        self.wrong(ahead + [("stamp", 5)], ("gave up", 4, 0, "room"), "stamp", versions)
        # The version goes ahead of the worker.
        self.wrong((), put(put(TICKS[0], (3,), 2), (4,), 1), "stamp")


class Workers(Case):
    def test_events_of_no_form(self):
        for event in ((None,), (1,), ("tock",), ("tick", 1), ("packet", "in"), ("packet", "side", ()), ("packet", "in", []), ("packet", "in", (256,)),
                      ("packet", "in", (True,)), ("packet", "in", (), 1), ("packet", None, ()), (["packet"], "in", ()), ("piece", 1, CLIENT, ()),
                      ("request", (1, 0), CLIENT), ("gone", 1), ("inside", (1, 0), 1), ("request", (1, 0), CLIENT, request(), 1)):
            for w in range(W):
                self.wrong((), put(put(asked(1), (5,), event), (4,), w), "worker")

    def test_workers_of_events(self):
        rows = [("came", 1, 5, 1, A, ("packet", "out", octets_of(ask_packet()))), asked(1), fault(1), gone(1), asked(1, client=OTHER),
                ("came", 1, 5, 1, 0, ("packet", "in", ()))]
        for row in rows:
            self.right([row])
            for w in range(4):
                if w != row[4]:
                    self.wrong((), put(row, (4,), w), "worker")
        self.right([asked(1), reacted(2)])
        self.wrong([asked(1)], reacted(2, w=1 - A), "worker")

    def test_ticks(self):
        self.wrong((), TICKS[1][:1] + (1,) + TICKS[1][2:], "worker")
        self.wrong(TICKS[:1], ("came", 2, 5, 1, 0, ("tick",)), "worker")
        self.wrong(TICKS[:1], ("came", 2, 6, 1, 1, ("tick",)), "worker")
        for row in (asked(2), fault(2), gone(2), ("came", 2, 5, 1, A, ("packet", "out", octets_of(ask_packet())))):
            self.wrong(TICKS[:1], row, "worker")
        self.wrong(TICKS, ("came", 3, 5, 1, 1, ("tick",)), "worker")
        # Rows of other sorts may stand within.
        self.right(TICKS[:1] + DIDS[:1] + TICKS[1:])
        self.check([("came", 1, 5, 1, 0, ("tick",)), ("came", 2, 6, 1, 0, ("tick",))], None, workers=1)

    def test_indexes(self):
        self.wrong((), asked(1, index=1), "worker")
        self.wrong((), fault(1, index=1), "worker")
        for index in (0, 2, -1, None, True, "1", 1.0):
            self.wrong([asked(1)], asked(2, index=index), "worker")
            self.wrong([asked(1)], fault(2, index=index), "worker")
        self.right([asked(1), asked(2, index=1), asked(3, 2), fault(4, index=2), asked(5, 2, 1)])
        self.right([asked(1, 7), asked(2, 3)])

    def test_names_and_clients(self):
        for connection in (0, -1, 1000000000, True, None, "1", 1.0):
            for row in (asked(1, connection), fault(1, connection), gone(1, connection)):
                self.wrong((), row, "worker")
        for name in (None, 5, [1, 0], (1,), (1, 0, 0), ()):
            for row in (asked(1), fault(1)):
                self.wrong((), put(row, (5, 1), name), "worker")
            self.wrong([asked(1)], put(reacted(2), (5, 1), name), "worker")
        for client in (0, 2 ** 32, None, True, "a", 0x7F000001, -CLIENT, CLIENT * 1.0):
            for row in (asked(1), fault(1), gone(1)):
                for w in range(W):
                    self.wrong((), put(put(row, (5, 2), client), (4,), w), "worker")

    def test_another_client(self):
        for first in (asked(1), fault(1), gone(1)):
            for row in (asked(2, index=1, client=OTHER), fault(2, index=1, client=OTHER), gone(2, client=OTHER)):
                self.wrong([first], row, "worker")

    def test_behind_faults_and_closings(self):
        self.wrong([fault(1)], asked(2, index=1), "worker")
        self.wrong([fault(1)], fault(2, index=1), "worker")
        self.right([fault(1), gone(2)])
        for ahead in ([gone(1)], [fault(1), gone(2)], [asked(1), gone(2)]):
            n = len(ahead) + 1
            for index in (0, 1):
                self.wrong(ahead, asked(n, index=index), "worker")
                self.wrong(ahead, fault(n, index=index), "worker")
            self.wrong(ahead, gone(n), "worker")
            self.right(ahead + [asked(n, 2)])

    def test_values(self):
        for value in ODD + (request("get"), request(headers=()), ("GET",), list(request()), request("GET", "/" + "a" * 380),
                            request(headers=(("host", "h"),) + (("a", "b" * 201),)), request(body=())):
            self.wrong((), put(asked(1), (5, 3), value), "worker")
        for word in ODD:
            if not isinstance(word, str):
                self.wrong((), fault(1, word=word), "worker")
        self.right([fault(1, word="any word")])

    def test_reactions(self):
        for row in (reacted(1), reacted(1, 5)):
            self.wrong((), row, "worker")
        for index in (1, 2):
            self.wrong([asked(1)], reacted(2, index=index), "worker")
        self.right([asked(1), fault(2, index=1), reacted(3), reacted(4, index=1, k=9), gone(5), reacted(6, reaction=("answer", answer()))])
        for k in (0, -1, None, True, "1"):
            self.wrong([asked(1)], reacted(2, k=k), "worker")
        for reaction in ODD + ("late", ("answer",), ("answer", [200]), ("answer", ([],))):
            self.wrong([asked(1)], reacted(2, reaction=reaction), "worker")
        self.wrong([gone(1)], reacted(2), "worker")


class Deeds(Case):
    def test_unknown(self):
        for n in (1, 9):
            self.wrong((), ("did", n, (), ()), "unknown")
            self.wrong((), ("lost", n), "unknown")
        self.wrong(TICKS, ("did", 3, (), ()), "unknown")

    def test_twice(self):
        for row in (DIDS[0], ("lost", 1)):
            self.wrong(TICKS + DIDS, row, "twice")
        ahead = TICKS + DIDS[:1] + [("fell", 1, 5), ("lost", 2)]
        for row in (("did", 2, (), ()), ("lost", 2), ("did", 1, (), ())):
            self.wrong(ahead, row, "twice")
        # Also where a lost is due.
        self.wrong(TICKS + DIDS[:1] + [("fell", 1, 5)], DIDS[0], "twice")

    def test_left(self):
        self.wrong(TICKS + [("fell", 1, 5)], ("did", 2, (), ()), "left")
        self.right(TICKS + [("fell", 1, 5), ("lost", 2), ("did", 1, (), ())])
        more = [("came", 3, 6, 1, 0, ("tick",)), ("came", 4, 6, 1, 1, ("tick",))]
        self.right(TICKS + [("fell", 1, 5), ("lost", 2)] + more + [("did", 4, (), ())])

    def test_order(self):
        more = TICKS + [("came", 3, 6, 1, 0, ("tick",)), ("came", 4, 6, 1, 1, ("tick",))]
        self.wrong(more + [("did", 3, (), ())], ("did", 1, (), ()), "order")
        self.right(more + [("did", 4, (), ()), ("did", 1, (), ()), ("did", 3, (), ())])

    def test_lost(self):
        more = TICKS + [("came", 3, 6, 1, 0, ("tick",)), ("came", 4, 6, 1, 1, ("tick",))]
        fell = ("fell", 1, 6)
        self.right(more + [fell, ("lost", 2), ("lost", 4)])
        self.right(more + DIDS[1:] + [fell, ("lost", 4), ("did", 1, (), ())])
        self.wrong(more, ("lost", 1), "lost")
        self.wrong(more + [fell], ("lost", 4), "lost")
        self.wrong(more + [fell], ("lost", 1), "lost")
        self.wrong(more + [fell, ("lost", 2)], ("lost", 1), "lost")
        self.wrong(more + [fell, ("lost", 2), ("lost", 4)], ("lost", 1), "lost")
        versions = {1: (policy(), 0), 2: (policy(), 0)}
        for row in (("did", 1, (), ()), asked(5, moment=6), ("stamp", 2), ("gave up", 2, 0, "room"), ("fell", 0, 6), ("fell", 1, 6)):
            for ahead in (more + [fell], more + [fell, ("lost", 2)]):
                self.wrong(ahead, row, "lost", versions)
                self.right(ahead[:-1] if len(ahead) == 5 else ahead + [("lost", 4), row], versions)

    def test_lost_stands_behind_other_words(self):
        ahead = TICKS + [("fell", 1, 5)]
        self.wrong(ahead, put(asked(3), (1,), 4), "number")
        self.wrong(ahead, asked(3, moment=4), "moment")
        self.wrong(ahead, ("stamp", 9), "stamp")
        self.wrong(ahead, put(asked(3), (4,), 1 - A), "worker")
        self.wrong(ahead, ("did", 9, (), ()), "unknown")
        self.wrong(ahead, None, "form")
        self.wrong(ahead, ("fell", 0, 4), "lost")

    def test_fell(self):
        self.right([("fell", 0, 0)])
        self.wrong((), ("fell", 0, 1), "fell")
        for moment in (0, 4, 6):
            self.wrong(TICKS + DIDS, ("fell", 0, moment), "fell")
        self.right(TICKS + DIDS + [("fell", 0, 5), ("fell", 0, 5), ("fell", 1, 5)])

    def test_done(self):
        ahead = [("came", 1, 5, 1, A, ("packet", "out", octets_of(ask_packet())))]
        edge = Edge(ground(W), policy())
        for step in realize(edge, [("arrive", 5, ("packet", "out", octets_of(ask_packet())))]):
            edge.step(step)
        row = edge.log()[-1]
        self.right(ahead + [row])
        for at in (2, 3):
            for value in ((), row[at] + row[at], ODD, row[at] + (None,), (list(row[at][0]),)):
                self.wrong(ahead, put(row, (at,), value), "done")
        for path in ((2, 0, 0), (2, 0, 1), (2, 0, 2), (2, 0, 2, 5), (3, 0, 0), (3, 0, 1), (3, 0, 2)):
            for value in (None, "x", 999, -1, (), []):
                self.wrong(ahead, put(row, path, value), "done")
        # A truth is no number, nor is a list a tuple.
        self.assertEqual(row[3][0][1:], (2 if A == 0 else 3, 0))
        self.wrong(ahead, put(row, (3, 0, 2), False), "done")
        self.wrong(ahead, put(row, (3, 0, 2), 0.0), "done")
        self.wrong(ahead, put(row, (2, 0, 2), list(row[2][0][2])), "done")
        for octet in (0, 1):
            if octet in row[2][0][2]:
                self.wrong(ahead, put(row, (2, 0, 2, row[2][0][2].index(octet)), bool(octet)), "done")

    def test_great_depths(self):
        deep = ()
        for _ in range(20000):
            deep = (deep,)
        row = asked(1)
        found = judge(ground(W), ONE, [row, reacted(2, reaction=("answer", deep)), ("did", 1, (deep,), ())])
        self.assertEqual(found, (2, "done"))
        self.assertEqual(judge(ground(W), ONE, [deep]), (0, "form"))
        self.assertEqual(judge(ground(W), ONE, [put(row, (5, 3), deep)]), (0, "worker"))

    def test_a_life_behind_a_fall_begins_anew(self):
        given = ("packet", "in", octets_of(ask_packet(0x0A000005, 5000, 0x08080808, 99)))
        edge = Edge(ground(1), policy())
        plan = [("arrive", 100, ("tick",)), ("fall", 0), ("arrive", 159, given), ("arrive", 160, given)]
        for step in realize(edge, plan):
            edge.step(step)
        log = edge.log()
        self.assertEqual([row[3] for row in log if row[0] == "did"][1:], [(("drop", "ports"),), (("opened", 1, 3),)])
        self.check(log, None, workers=1)
        # Without the fall there would be ports.
        self.assertEqual(judge(ground(1), ONE, log[:2] + log[3:]), (3, "done"))


class Runs(unittest.TestCase):
    def test_logs_of_runs(self):
        draw = random.Random(751)
        for _ in range(60):
            edge = random_run(draw, draw.randint(20, 250))
            workers = len(edge.lives())
            log, versions = edge.log(), versions_of(edge)
            self.assertIsNone(judge(ground(workers), versions, log))
            for many in range(0, len(log), 17):
                self.assertIsNone(judge(ground(workers), versions, log[:many]))

    def test_logs_with_one_row_wrong(self):
        draw, words = random.Random(750), {}
        for _ in range(25):
            edge = random_run(draw, draw.randint(60, 200))
            workers, log, versions = len(edge.lives()), edge.log(), versions_of(edge)
            for _ in range(25):
                bent, at = self.bent(draw, log)
                found = judge(ground(workers), versions, bent)
                if found is not None:
                    self.assertGreaterEqual(found[0], at)
                    words[found[1]] = words.get(found[1], 0) + 1
                    self.assertIsNone(judge(ground(workers), versions, bent[:found[0]]))
        self.assertLessEqual({"form", "number", "stamp", "unknown", "twice", "left", "order", "lost", "fell", "done", "worker", "moment"},
                             set(words))

    def bent(self, draw, log):
        """Return a log with one row bent, left out, doubled, moved or put in, and the index of the first changed row."""
        at, other = draw.randrange(len(log)), draw.randrange(len(log))
        kind, row = draw.randrange(6), log[at]
        if kind == 0:
            field = draw.randrange(1, len(row))
            value = draw.choice([0, 1, 2, 7, (), ("tick",), row[field]])
            return log[:at] + [put(row, (field,), value)] + log[at + 1:], at
        if kind == 1:
            return log[:at] + log[at + 1:], at
        if kind == 2:
            return log[:at] + [row] + log[at:], at
        if kind == 3:
            rest = log[:at] + log[at + 1:]
            return rest[:other] + [row] + rest[other:], min(at, other)
        if kind == 4:
            some = [("fell", 0, 0), ("lost", 1), ("stamp", 2), ("gave up", 2, 0, "room"), ("did", 1, (), ()), log[other]]
            return log[:at] + [draw.choice(some)] + log[at:], at
        if row[0] == "did" and row[3]:
            return log[:at] + [put(row, (3, 0), ("drop", "rules"))] + log[at + 1:], at
        return log[:at] + [put(row, (1,), draw.choice([0, 1, 10 ** 6]))] + log[at + 1:], at


if __name__ == "__main__":
    unittest.main()
