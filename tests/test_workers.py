"""Points 741 to 743: workers, and the bodies that they take and answer."""

import copy
import unittest

from onepolicy.links import Receiver, Sender
from onepolicy.plain import Plain
from onepolicy.versions import values_of_policy
from onepolicy.workers import Worker
from edge_samples import CLIENT, ask_packet, ground, octets_of, policy, request
from samples import OWN, PC, SERVER, packet, udp


def triple(number, cut=0, **parts):
    return (number, values_of_policy(policy(**parts)), cut)


class Case(unittest.TestCase):
    def setUp(self):
        self.worker = Worker(ground(2), 1, 4)

    def take(self, body):
        before, twin = copy.deepcopy(body), self.worker.twin()
        found = self.worker.take(body)
        self.assertEqual(body, before)
        self.assertEqual((type(found), len(found), type(found[1])), (tuple, 2, list))
        self.assertEqual(twin.take(body), found)
        self.assertEqual(twin.versions, self.worker.versions)
        return found


class Beginnings(Case):
    def test_attributes(self):
        worker = self.worker
        self.assertEqual((worker.life, worker.plain, worker.versions), (4, None, {}))
        self.assertIsInstance(worker.sender, Sender)
        self.assertIsInstance(worker.receiver, Receiver)
        self.assertEqual((worker.sender.life, worker.receiver.life), (4, 4))

    def test_begin(self):
        self.worker.begin(None, [triple(1), triple(3, 3, keep="cut")])
        self.assertIsInstance(self.worker.plain, Plain)
        self.assertEqual(self.worker.versions, {1: (policy(), 0), 3: (policy(keep="cut"), 3)})

    def test_begin_behind_a_fall(self):
        for moment, word in ((100, "drop"), (40, "opened"), (None, "opened")):
            self.worker.begin(moment, (triple(1),))
            given = packet(udp(5000, 99), PC, SERVER)
            (n, outputs, fates), answers = self.take(("event", 9, 100, 1, ("packet", "in", octets_of(given))))
            self.assertEqual((n, fates[0][0], answers), (9, word, []))

    def test_go_on(self):
        self.assertEqual(self.take(("go on", 4, 50, (triple(5),))), (None, []))
        self.assertEqual(list(self.worker.versions), [5])
        self.assertEqual(self.worker.plain.living(), 0)
        self.assertEqual(self.take(("go on", 4, 50, (triple(5), triple(6, room=1)))), (None, [("has", 6)]))
        self.assertEqual(sorted(self.worker.versions), [5, 6])


class Bodies(Case):
    def setUp(self):
        super().setUp()
        self.worker.begin(None, [triple(1)])

    def open(self, port, moment=0, n=1):
        return self.take(("event", n, moment, 1, ("packet", "out", octets_of(ask_packet(port=port)))))

    def test_events(self):
        plain = Plain(ground(2), 1, None)
        versions = {1: (policy(), 0)}
        for n, moment, event in ((3, 0, ("packet", "out", octets_of(ask_packet()))), (5, 2, ("request", (7, 0), CLIENT, request())),
                                 (6, 20, ("tick",))):
            outputs, fates = plain.take(versions, n, moment, 1, event)
            self.assertEqual(self.take(("event", n, moment, 1, event)), ((n, outputs, fates), []))
        self.assertEqual(type(outputs), list)

    def test_orders(self):
        self.assertEqual(self.take(("have",) + triple(2, room=1)), (None, [("has", 2)]))
        self.assertEqual(self.worker.versions[2], (policy(room=1), 0))
        for port in (1, 2):
            self.open(port)
        self.assertEqual(self.take(("have",) + triple(3, 3, room=2, keep="cut")), (None, [("has", 3)]))
        self.assertEqual(self.take(("have",) + triple(4, room=1)), (None, [("not", 4, "room")]))
        # It has the version until it is dropped.
        self.assertEqual(sorted(self.worker.versions), [1, 2, 3, 4])
        self.assertEqual(self.worker.versions[3][1], 3)
        self.assertEqual(self.take(("drop", 4)), (None, []))
        self.assertEqual(sorted(self.worker.versions), [1, 2, 3])

    def test_rooms_as_of_the_last_event(self):
        for port in (1, 2):
            self.open(port)
        self.assertEqual(self.take(("have",) + triple(2, room=1))[1], [("not", 2, "room")])
        self.take(("event", 2, 1000, 1, ("tick",)))
        self.assertEqual(self.take(("have",) + triple(3, room=1))[1], [("has", 3)])


class Twins(Case):
    def test_they_go_on_alone(self):
        self.worker.begin(None, [triple(1)])
        self.worker.sender.send(("x",))
        twin = self.worker.twin()
        self.take(("event", 1, 0, 1, ("packet", "out", octets_of(ask_packet()))))
        self.take(("have",) + triple(2))
        self.worker.sender.had(1)
        self.worker.receiver.receive(("data", 4, 1, ("y",)))
        self.assertEqual((twin.life, twin.plain.living(), list(twin.versions), len(twin.sender.rows()), twin.receiver.rows()),
                         (4, 0, [1], 1, (1, [])))
        twin.versions[1][0].clear()
        self.assertEqual(self.worker.versions[1], (policy(), 0))
        self.assertIsNone(Worker(ground(), 0, 1).twin().plain)

    def test_what_is_handed_in_is_not_shared(self):
        rows = [triple(1)]
        self.worker.begin(None, rows)
        rows.clear()
        self.assertEqual(list(self.worker.versions), [1])


if __name__ == "__main__":
    unittest.main()
