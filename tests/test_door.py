"""Points 710 to 713: what arrives at the door, the events that it makes, its refusals and its numbers."""

import random
import unittest

from onepolicy import door
from onepolicy.door import MOST_CONNECTION, Door, are_octets, is_arrival, is_name, is_reaction, is_whole
from onepolicy.errors import Misstep
from onepolicy.reading import Reader
from onepolicy.steering import mixed, steered
from edge_samples import CLIENT, OTHER, answer, ask_packet, ground, octets_of, request, syn, text
from samples import PC, calm
from table_samples import ODD


class Values(unittest.TestCase):
    def ask(self, function, due, *given):
        self.assertIs(calm(self, function, *given), due, given)

    def test_is_whole(self):
        self.assertEqual(MOST_CONNECTION, 999999999)
        for value, low, due in ((0, 0, True), (5, 5, True), (4, 5, False), (-1, 0, False), (-1, -1, True), (10 ** 30, 1, True)):
            self.ask(is_whole, due, value, low)
        for value in ODD:
            self.ask(is_whole, type(value) is int, value, -5)
        for name in ("is_whole", "are_octets", "is_name", "is_reaction", "is_arrival"):
            self.assertEqual(getattr(door, name).__module__, "onepolicy.door")

    def test_are_octets(self):
        for value in ([], (), [0, 255], (7,), tuple(range(256))):
            self.ask(are_octets, True, value)
        for value in ODD + ([256], (-1,), [True], (0, None), [1.0], "ab", b"ab"):
            if value not in ([], (), [0], (0,)):
                self.ask(are_octets, False, value)

    def test_is_name(self):
        for value in ((1, 0), (999999999, 5), (10 ** 12, 10 ** 12)):
            self.ask(is_name, True, value)
        for value in ODD + ((0, 0), (1, -1), (True, 0), (1, False), [1, 0], (1,), (1, 0, 0), ("1", 0), (1, None), (1.0, 0)):
            self.ask(is_name, False, value)

    def test_is_reaction(self):
        deep = ()
        for _ in range(30000):
            deep = (deep,)
        for value in ("refused", "broken", ("answer", ()), ("answer", answer()), ("answer", (1, None, "x", (2.5, (b"", True)))), ("answer", deep)):
            self.assertIs(is_reaction(value), True)
        for value in ODD + ("Refused", "answer", ("answer",), ("answer", 5), ("answer", [200]), ("answer", None), ("answer", (), ()),
                            ("Answer", ()), ["answer", ()], ("answer", ([],)), ("answer", (1, ({},))), ("answer", (((), ((1, []),)),)),
                            ("refused",), (None, ())):
            self.ask(is_reaction, False, value)
        self.assertIs(is_reaction(("answer", (deep, []))), False)

    def test_is_arrival(self):
        for value in (("tick",), ("packet", "in", []), ("packet", "out", (0, 255)), ("piece", 1, CLIENT, []),
                      ("piece", 999999999, PC, (7,)), ("inside", (1, 0), 1, "refused"), ("inside", (5, 9), 3, ("answer", answer()))):
            self.ask(is_arrival, True, value)
        for value in ODD + (
            "tick", ["tick"], ("tick", 1), ("Tick",), ("packet",), ("packet", "in"), ("packet", "side", []), ("packet", None, []),
            ("packet", "in", [256]), ("packet", "in", None), ("packet", "in", [], 1), ("packet", ["in"], []), ("piece", 0, CLIENT, []),
            ("piece", 1000000000, CLIENT, []), ("piece", True, CLIENT, []), ("piece", 1, 0, []), ("piece", 1, 2 ** 32, []),
            ("piece", 1, 0x7F000001, []), ("piece", 1, None, []), ("piece", 1, -CLIENT, []), ("piece", 1, CLIENT, "a"),
            ("piece", 1, CLIENT, [True]), ("piece", 1, CLIENT), ("piece", 1, CLIENT, [], 1), ("inside", (1, 0), 0, "refused"),
            ("inside", (1, 0), True, "refused"), ("inside", (0, 0), 1, "refused"), ("inside", [1, 0], 1, "refused"),
            ("inside", (1, 0), 1, "late"), ("inside", (1, 0), 1, ("answer", ([],))), ("inside", (1, 0), 1), ("inside", (1, 0), None, "broken"),
            ("here", 1), (["tick"],), ((),), (None, 1, 2), ("outside", (1, 0), 1, "refused"), ("tock",),
        ):
            self.ask(is_arrival, False, value)


class Case(unittest.TestCase):
    def setUp(self):
        self.ground = ground(4)
        self.door = Door(self.ground)

    def take(self, moment, arrival):
        """Take what arrives; nothing that is handed in changes, and a twin does the same, by itself."""
        twin = self.door.twin()
        found = calm(self, self.door.events, moment, arrival)
        self.assertEqual(self.door.moment(), moment)
        self.assertEqual(twin.events(moment, arrival), found)
        self.assertEqual(type(found), list)
        for row in found:
            self.assertEqual((type(row), len(row)), (tuple, 2))
        return found

    def refuse(self, word, moment, arrival):
        """Look at a refusal, behind which nothing is changed."""
        before = self.door.moment()
        with self.assertRaises(Misstep) as caught:
            calm(self, self.door.events, moment, arrival)
        self.assertEqual((caught.exception.word, self.door.moment()), (word, before))


class Events(Case):
    def test_at_first(self):
        self.assertEqual(self.door.moment(), 0)
        self.assertEqual([self.door.next() for _ in range(4)], [1, 2, 3, 4])

    def test_packets(self):
        for given in (ask_packet(), ask_packet(OTHER), syn(CLIENT + 77), syn(CLIENT + 3)):
            octets = octets_of(given)
            for row in (octets, list(octets)):
                w = steered(self.ground, octets)
                self.assertEqual(self.take(3, ("packet", "out", row)), [(w, ("packet", "out", octets))])
        self.assertEqual(self.take(3, ("packet", "in", [])), [(0, ("packet", "in", ()))])
        self.assertEqual(self.take(3, ("packet", "in", [9] * 3000)), [(0, ("packet", "in", (9,) * 3000))])

    def test_ticks(self):
        self.assertEqual(self.take(7, ("tick",)), [(w, ("tick",)) for w in range(4)])
        self.ground = ground(1)
        self.door = Door(self.ground)
        self.assertEqual(self.take(7, ("tick",)), [(0, ("tick",))])

    def test_pieces(self):
        w, row = mixed(CLIENT) % 4, text("GET /a E/1") + text("PUT / E/1", body=(1, 2))
        due = [(w, ("request", (5, 0), CLIENT, request(target="/a"))), (w, ("request", (5, 1), CLIENT, request("PUT", body=(1, 2))))]
        self.assertEqual(self.take(0, ("piece", 5, CLIENT, row)), due)
        self.setUp()
        told = []
        for octet in row:
            told += self.take(0, ("piece", 5, CLIENT, (octet,)))
        self.assertEqual(told, due)
        self.assertEqual(self.take(1, ("piece", 5, CLIENT, text("GET / E/1"))), [(w, ("request", (5, 2), CLIENT, request()))])

    def test_faults(self):
        w = mixed(CLIENT) % 4
        row = text("GET / E/1") + list(b"GET /#") + text("GET / E/1")
        self.assertEqual(self.take(0, ("piece", 5, CLIENT, row)), [
            (w, ("request", (5, 0), CLIENT, request())), (w, ("fault", (5, 1), CLIENT, "target"))])
        # Behind a fault nothing of the connection is read.
        self.assertEqual(self.take(1, ("piece", 5, CLIENT, text("GET / E/1"))), [])
        self.assertEqual(self.take(1, ("piece", 5, CLIENT, [])), [(w, ("gone", 5, CLIENT))])

    def test_the_reader_is_narrow(self):
        row = text("GET /" + "a" * 380 + " E/1")
        self.assertEqual(self.take(0, ("piece", 5, CLIENT, row))[0][1], ("fault", (5, 0), CLIENT, "target"))

    def test_closings(self):
        w = mixed(CLIENT) % 4
        for empty, connection in (([], 5), ((), 6)):
            self.assertEqual(self.take(0, ("piece", connection, CLIENT, empty)), [(w, ("gone", connection, CLIENT))])
        self.take(0, ("piece", 7, CLIENT, [71]))
        self.assertEqual(self.take(0, ("piece", 7, CLIENT, [])), [(w, ("gone", 7, CLIENT))])

    def test_reactions(self):
        self.take(0, ("piece", 5, OTHER, text("GET / E/1") + [0]))
        w = mixed(OTHER) % 4
        for index in (0, 1):
            for k in (1, 9):
                for reaction in ("refused", "broken", ("answer", answer()), ("answer", ())):
                    event = ("inside", (5, index), k, reaction)
                    self.assertEqual(self.take(0, event), [(w, event)])
        # Also behind the closing.
        self.take(0, ("piece", 5, OTHER, []))
        self.assertEqual(self.take(0, ("inside", (5, 0), 1, "broken")), [(w, ("inside", (5, 0), 1, "broken"))])

    def test_workers_of_clients(self):
        draw, found = random.Random(711), {}
        for connection in range(1, 60):
            client = draw.randrange(0x01000000, 0x7F000000)
            (w, _), = self.take(0, ("piece", connection, client, text("GET / E/1")))
            self.assertEqual(w, mixed(client) % 4)
            found[w] = True
        self.assertEqual(sorted(found), [0, 1, 2, 3])

    def test_connections_do_not_mix(self):
        first, second = text("GET /one E/1"), text("GET /two E/1")
        told = []
        for at in range(len(first)):
            told += self.take(at, ("piece", 1, CLIENT, first[at:at + 1])) + self.take(at, ("piece", 2, OTHER, second[at:at + 1]))
        self.assertEqual([event[1:] for _, event in told], [((1, 0), CLIENT, request(target="/one")), ((2, 0), OTHER, request(target="/two"))])


class Refusals(Case):
    def test_form(self):
        for value in ODD + (("tick", 1), ("piece", 0, CLIENT, []), ("packet", "in", [256])):
            self.refuse("form", 0, value)
        for moment in (-1, None, True, "0", 1.0, (0,)):
            self.refuse("form", moment, ("tick",))
        self.assertEqual(self.take(0, ("tick",))[0], (0, ("tick",)))

    def test_moment(self):
        self.take(5, ("tick",))
        for arrival in (("tick",), ("packet", "in", []), ("piece", 1, CLIENT, []), ("inside", (1, 0), 1, "broken")):
            self.refuse("moment", 4, arrival)
            self.refuse("moment", 0, arrival)
        self.take(5, ("tick",))
        # The form goes ahead of the moment.
        self.refuse("form", 4, ("tick", 1))
        # What brings no event has a moment, too.
        self.take(9, ("piece", 1, CLIENT, [71]))
        self.refuse("moment", 8, ("tick",))

    def test_connections_that_are_opened(self):
        self.take(0, ("piece", 5, CLIENT, [71]))
        for connection in (4, 1):
            self.refuse("connection", 1, ("piece", connection, CLIENT, [71]))
            self.refuse("connection", 1, ("piece", connection, CLIENT, []))
        self.take(0, ("piece", 7, CLIENT, []))
        self.refuse("connection", 1, ("piece", 6, CLIENT, [71]))
        self.take(0, ("piece", 8, CLIENT, [71]))

    def test_another_client(self):
        self.take(0, ("piece", 5, CLIENT, [71]))
        for octets in ([69], []):
            self.refuse("connection", 1, ("piece", 5, OTHER, octets))
        # Nothing was read of what was refused.
        self.assertEqual(self.take(1, ("piece", 5, CLIENT, text("GET / E/1")[1:]))[0][1], ("request", (5, 0), CLIENT, request()))

    def test_behind_the_closing(self):
        self.take(0, ("piece", 5, CLIENT, []))
        for octets in ([69], []):
            self.refuse("connection", 0, ("piece", 5, CLIENT, octets))

    def test_names_that_are_not_told(self):
        self.refuse("connection", 0, ("inside", (5, 0), 1, "broken"))
        self.take(0, ("piece", 5, CLIENT, text("GET / E/1")))
        for name in ((5, 1), (4, 0), (6, 0), (10 ** 12, 0)):
            self.refuse("connection", 0, ("inside", name, 1, "broken"))
        self.take(0, ("inside", (5, 0), 1, "broken"))

    def test_moment_goes_ahead_of_connection(self):
        self.take(5, ("piece", 5, CLIENT, []))
        self.refuse("moment", 4, ("piece", 5, CLIENT, []))
        self.refuse("connection", 6, ("piece", 5, CLIENT, []))
        self.assertEqual(self.door.moment(), 5)


class Twins(Case):
    def test_they_go_on_alone(self):
        self.take(0, ("piece", 5, CLIENT, text("GET / E/1")[:9]))
        twin = self.door.twin()
        self.assertEqual((self.door.next(), self.door.next(), twin.next()), (1, 2, 1))
        self.take(4, ("piece", 5, CLIENT, [0]))
        self.assertEqual((self.door.moment(), twin.moment()), (4, 0))
        self.assertEqual(twin.events(0, ("piece", 5, CLIENT, text("GET / E/1")[9:]))[0][1], ("request", (5, 0), CLIENT, request()))
        twin.events(0, ("piece", 9, CLIENT, []))
        self.assertEqual(self.take(4, ("piece", 6, CLIENT, []))[0][1], ("gone", 6, CLIENT))

    def test_they_begin_where_the_other_one_is(self):
        self.take(4, ("piece", 5, CLIENT, text("GET / E/1")))
        self.door.next()
        twin = self.door.twin()
        self.assertEqual((twin.moment(), twin.next()), (4, 2))
        self.door = twin
        self.refuse("moment", 3, ("tick",))
        self.refuse("connection", 4, ("piece", 3, CLIENT, []))
        self.refuse("connection", 4, ("piece", 5, OTHER, []))
        self.refuse("connection", 4, ("inside", (5, 1), 1, "broken"))
        self.take(4, ("inside", (5, 0), 1, "broken"))

    def test_what_is_handed_in_is_not_shared(self):
        row = text("PUT / E/1", body=(1, 2, 3))
        first = row[:-1]
        self.door.events(0, ("piece", 5, CLIENT, first))
        first.clear()
        self.assertEqual(self.door.events(0, ("piece", 5, CLIENT, row[-1:]))[0][1][3], request("PUT", body=(1, 2, 3)))
        octets = [1, 2]
        (_, event), = self.door.events(0, ("packet", "in", octets))
        octets.clear()
        self.assertEqual(event, ("packet", "in", (1, 2)))


class Streams(Case):
    def test_readers_and_the_door_tell_the_same(self):
        draw = random.Random(710)
        for connection in range(1, 40):
            row = text("GET / E/1") + text("POST / E/1", pieces=((1, 2),)) + text("GET /x E/1")
            at = draw.randrange(len(row))
            row[at] = draw.choice([row[at], 0, 13, 65])
            told, begin = [], 0
            while begin < len(row):
                many = draw.randint(1, 40)
                told += self.take(0, ("piece", connection, CLIENT, row[begin:begin + many]))
                begin += many
            due = [("request" if word == "value" else "fault", (connection, index), CLIENT, value)
                   for index, (word, value, _) in enumerate(Reader().feed(row))]
            self.assertEqual([event for _, event in told], due)


if __name__ == "__main__":
    unittest.main()
