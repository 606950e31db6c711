"""Points 746 and 747: plans that are carried out, and edges that come to rest."""

import copy
import random
import unittest

from onepolicy.edge import Edge
from onepolicy.errors import Misstep, Wrong
from onepolicy.judge import judge
from onepolicy.realize import realize, settle
from edge_runs import Arrivals, random_policy, random_run, random_step, versions_of
from edge_samples import CLIENT, ask_packet, ground, octets_of, policy, text
from table_samples import ODD


def seen(edge):
    return copy.deepcopy((edge.links(), edge.kept(), edge.lives(), edge.stamped(), edge.log()))


def at_rest(case, edge):
    """Look at an edge at rest."""
    case.assertEqual([rows for rows in edge.links().values() if rows], [])
    for kept, (_, bodies) in edge.kept().values():
        case.assertEqual((kept, bodies), ([], []))
    for life, spoken, goes_on in edge.lives():
        case.assertEqual((life, goes_on), (spoken, True))
    log = edge.log()
    case.assertEqual(sorted(row[1] for row in log if row[0] in ("did", "lost")), [row[1] for row in log if row[0] == "came"])
    case.assertIsNone(edge.stamped()[1])


class Plans(unittest.TestCase):
    def carry_out(self, edge, plan):
        """Return the steps of a plan, and the edge behind them."""
        before, given = seen(edge), copy.deepcopy(plan)
        steps = realize(edge, plan)
        self.assertEqual(type(steps), list)
        # The edge stays as it is.
        self.assertEqual((seen(edge), plan), (before, given))
        twin = edge.twin()
        for step in steps:
            twin.step(step)
        return steps, twin

    def test_rows_are_among_the_steps(self):
        edge = Edge(ground(2), policy())
        plan = [("arrive", 0, ("tick",)), ("bring", policy(room=9)), ("fall", 1), ("arrive", 5, ("packet", "out", list(octets_of(ask_packet()))))]
        steps, twin = self.carry_out(edge, plan)
        self.assertEqual([step for step in steps if step[0] not in ("deliver", "again")], plan[:2] + [("anew", 1)] + plan[3:])
        self.assertEqual([row[:2] for row in twin.log()], [
            ("came", 1), ("came", 2), ("did", 1), ("did", 2), ("stamp", 2), ("fell", 1), ("came", 3), ("did", 3)])
        self.assertEqual(realize(edge, []), [])
        self.assertEqual(realize(edge, tuple(plan)), steps)

    def test_each_event_is_done_at_its_coming(self):
        draw = random.Random(746)
        for _ in range(25):
            workers = draw.randint(1, 4)
            edge, arrivals, plan, moment = Edge(ground(workers), random_policy(draw)), Arrivals(draw), [], 0
            door = edge.twin()
            while len(plan) < 40:
                moment += draw.choice([0, 1, 3])
                row = draw.choice([("bring", random_policy(draw)), ("fall", draw.randrange(workers))] + [None] * 6)
                row = row or ("arrive", moment, arrivals.any([]))
                try:
                    steps = realize(door, [row])
                except Misstep as error:
                    self.assertEqual(error.word, "connection")
                    continue
                for step in steps:
                    door.step(step)
                plan.append(row)
            steps, twin = self.carry_out(edge, plan)
            self.assertEqual(twin.log(), door.log())
            at_rest(self, twin)
            self.order(twin.log(), plan)
            self.assertIsNone(judge(ground(workers), versions_of(twin), twin.log()))

    def order(self, log, plan):
        """Look at a log in which nothing is lost, and all is done ahead of what comes next."""
        due, versions, falls = [], 0, 0
        for row in log:
            if row[0] == "came":
                if due:
                    self.assertEqual(row[2], due[-1][1])
                due.append((row[1], row[2]))
            elif row[0] == "did":
                due = [(n, moment) for n, moment in due if n != row[1]]
            else:
                self.assertEqual(due, [])
                self.assertNotEqual(row[0], "lost")
                falls += row[0] == "fell"
                versions += row[0] != "fell"
        self.assertEqual((versions, falls), (sum(row[0] == "bring" for row in plan), sum(row[0] == "fall" for row in plan)))

    def refuse(self, kind, plan, *fields):
        edge = Edge(ground(2), policy())
        before = seen(edge)
        with self.assertRaises(kind) as caught:
            realize(edge, plan)
        self.assertEqual(tuple(vars(caught.exception).values()), fields)
        self.assertEqual(seen(edge), before)

    def test_rows_that_are_none(self):
        tick = ("arrive", 0, ("tick",))
        for row in ODD + (("arrive", 0), tick + (1,), ("bring",), ("fall",), ("fall", 0, 0), ("anew", 0), ("deliver", "door", 0, 0),
                          ("again", "door", 0), list(tick), ("x",), (["fall"], 0), (None, 0), ("Fall", 0)):
            self.refuse(Misstep, [row], "form")
            self.refuse(Misstep, [tick, row, None], "form")

    def test_steps_that_can_not_be_made(self):
        self.refuse(Misstep, [("fall", 2)], "worker")
        self.refuse(Misstep, [("arrive", 0, ("tock",))], "form")
        self.refuse(Misstep, [("arrive", 5, ("tick",)), ("arrive", 4, ("tick",))], "moment")
        self.refuse(Misstep, [("arrive", 5, ("inside", (1, 0), 1, "broken"))], "connection")
        self.refuse(Wrong, [("bring", policy(room=0))], "room", None)
        self.refuse(Wrong, [("bring", policy(trusted=(5,))), ("fall", 9)], "trusted", 0)

    def test_what_is_told_is_not_shared(self):
        edge = Edge(ground(2), policy())
        octets, value, piece = list(octets_of(ask_packet())), policy(), text("GET / E/1")
        plan = [("arrive", 0, ("packet", "out", octets)), ("bring", value), ("arrive", 0, ("piece", 1, CLIENT, piece))]
        steps = realize(edge, plan)
        before = copy.deepcopy(steps)
        octets.clear()
        value.clear()
        piece.clear()
        self.assertEqual(steps, before)

    def test_versions_that_are_given_up(self):
        edge = Edge(ground(2), policy())
        plan = [("arrive", 0, ("packet", "out", octets_of(ask_packet(port=4000 + at)))) for at in range(3)]
        plan += [("bring", policy(room=1)), ("bring", policy(room=3))]
        _, twin = self.carry_out(edge, plan)
        self.assertEqual([row[:2] for row in twin.log()[-2:]], [("gave up", 2), ("stamp", 3)])


class Rest(unittest.TestCase):
    def check(self, edge):
        before = seen(edge)
        steps = settle(edge)
        self.assertEqual((type(steps), seen(edge)), (list, before))
        twin = edge.twin()
        for step in steps:
            self.assertIn(step[0], ("deliver", "again"))
            twin.step(step)
        at_rest(self, twin)
        self.assertEqual(settle(twin), [])
        return steps

    def test_an_edge_at_rest(self):
        self.assertEqual(self.check(Edge(ground(3), policy())), [])

    def test_lost_messages(self):
        for lost in ("door", "worker", "both"):
            edge = Edge(ground(1), policy())
            edge.step(("arrive", 0, ("tick",)))
            if lost != "worker":
                edge.step(("lose", "door", 0, 0))
            else:
                edge.step(("deliver", "door", 0, 0))
                edge.step(("lose", 0, "door", 0))
            self.assertTrue(self.check(edge))

    def test_workers_that_are_begun_anew(self):
        for many in (1, 3):
            for lost in range(many + 1):
                edge = Edge(ground(2), policy())
                edge.step(("arrive", 0, ("tick",)))
                edge.step(("bring", policy()))
                for _ in range(many):
                    edge.step(("anew", 1))
                for _ in range(lost):
                    edge.step(("lose", 1, "door", 0))
                self.check(edge)
                if edge.links()[(1, "door")]:
                    edge.step(("deliver", 1, "door", 0))
                    while edge.links()[("door", 1)]:
                        edge.step(("lose", "door", 1, 0))
                    self.check(edge)

    def test_any_edge(self):
        draw = random.Random(747)
        for _ in range(40):
            edge, arrivals = Edge(ground(draw.randint(1, 4)), random_policy(draw)), Arrivals(draw)
            for moment in range(draw.randint(1, 150)):
                try:
                    edge.step(random_step(draw, edge, arrivals, moment // 5))
                except Misstep:
                    pass
            self.check(edge)
        self.assertEqual(settle(random_run(draw, 50)), [])


if __name__ == "__main__":
    unittest.main()
