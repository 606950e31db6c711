"""Points 146, 152, 164 to 167, 172 and 186, and the way of point 148, through rows of deeds."""

import copy
import random
import unittest

from flow_samples import DICTS, HOST, INSIDE, OWNS, packet_by, stub_by
from onepolicy.flows import carry, cut_below, may_open, new_book, opened, swept
from onepolicy.ground import is_inside, is_own, side_of
from onepolicy.packet_reading import read_packet
from onepolicy.packet_writing import stub_of, write_packet
from onepolicy.plans import planned
from onepolicy.steering import steered
from onepolicy.ways import moved, moved_stub, turned, way_of, way_of_stub
from samples import OWN, PC, ROUTER, SERVER, calm, echo, failure, packet, put, tcp, udp

INNER = (PC, PC + 1, HOST, HOST + 1)
OUTER = (SERVER, SERVER + 1, ROUTER)
SHORT = ("times", 10, 20, 70, 40, 15, 30, 90, 8, 60)
SEQS = (1000, 1001, 1002, 1003)


def pools(draw):
    """Return a few pools, which may share addresses and ports."""
    found = []
    for _ in range(2):
        low = 40000 + draw.randrange(4)
        found.append(("pool", tuple(sorted(draw.sample(OWNS, draw.randint(1, 2)))), low, low + draw.randrange(12)))
    return found


def segment(draw):
    flags = draw.choice([2, 2, 2, 18, 16, 16, 17, 4, 20])
    return tcp(flags, draw.choice(SEQS), draw.choice(SEQS), 500, data=(1,) * draw.choice([0, 0, 1]))


def fresh_packet(draw):
    """Return a packet between some hosts, that may open a flow or not."""
    inside = draw.choice([True, True, False])
    source = draw.choice(INNER if inside else OUTER)
    target = draw.choice(OUTER if draw.randrange(4) else (INNER if draw.randrange(2) else OWNS))
    if not inside:
        target = draw.choice(OWNS)
    kind = draw.choice(["udp", "tcp", "echo"])
    ports = (draw.randint(1, 3), draw.choice([53, 80]))
    if kind == "udp":
        body = udp(*ports)
    elif kind == "tcp":
        body = ("tcp",) + ports + segment(draw)[3:]
    else:
        body = echo(ident=ports[0])
    return packet(body, source, target, draw.choice([1, 2, 64]))


def known_packet(draw, value):
    """Return a packet, or a failure, that comes by a way of a book."""
    way = draw.choice(list(value["ways"]))
    if draw.randrange(4):
        return packet_by(way, draw.choice([1, 2, 64]), segment=segment(draw) if way[0] == "tcp" else None)
    source = draw.choice((way[1],) + (INNER if is_inside(value["ground"], way[1]) else OUTER))
    total = draw.choice([0, 1, 0x1234, 65535])
    stub = stub_by(turned(way), total=total, seq=draw.choice(SEQS))
    return packet(failure("unreachable", 3, 0, stub), source, way[3], draw.choice([1, 2, 64]))


def fate_for(draw, ground, given, choices):
    """Return a fate and what is chosen, by which a packet can have a plan."""
    _, source, _, target, port = way_of(given)
    inside = is_inside(ground, source)
    if is_own(ground, target):
        return ("forward", "web", draw.choice(choices) if inside else None), (draw.choice(INNER), draw.choice([53, 80]))
    return (("source", draw.choice(choices)) if inside and draw.randrange(4) else ("pass",)), None


class Row:
    """A book and the deeds that are done to it, looked at behind each one."""

    def __init__(self, case, seed):
        self.case, self.draw = case, random.Random(seed)
        self.workers = self.draw.randint(1, 3)
        self.ground = ("ground", INSIDE, OWNS, self.workers)
        self.fall = self.draw.choice([None, None, 50])
        self.moment = self.fall or 0
        self.book = new_book(self.ground, self.draw.randrange(self.workers), self.fall)
        self.pools, self.version, self.given = pools(self.draw), 1, {}

    def deed(self):
        draw, before = self.draw, self.book
        self.moment += draw.choice([0, 0, 0, 1, 3, 9, 25])
        choice = draw.randrange(12)
        if choice == 0:
            self.version += draw.randrange(2)
            self.book, cut = calm(self.case, cut_below, before, self.moment, self.version - draw.randrange(2))
        elif choice == 1:
            self.book = calm(self.case, swept, before, self.moment)
        elif choice < 7 and before["ways"]:
            self.carry(known_packet(draw, before))
        else:
            self.carry(fresh_packet(draw))
        for name in DICTS:
            self.case.assertIsNot(self.book[name], before[name])
        self.look(before)

    def carry(self, given):
        before = swept(self.book, self.moment)
        self.book, answer = calm(self.case, carry, self.book, self.moment, given)
        self.case.assertEqual(len(answer), {"new": 1, "drop": 2, "out": 4}[answer[0]])
        found = before["ways"].get(way_of(given))
        self.case.assertEqual(found is None, answer == ("new",) and self.book == before)
        if found is not None and answer == ("new",):
            # Only a talk that is over is begun anew.
            self.case.assertEqual((before["flows"][found[0]][3], given[7][5] & 23, found[1]), ("over", 2, 0))
            self.case.assertNotIn(found[0], self.book["flows"])
        if answer[0] == "drop":
            self.case.assertEqual(self.book, before)
        if answer[0] == "out":
            self.case.assertEqual(answer[2:], found)
            out = before["flows"][found[0]][2 - found[1]]
            self.case.assertEqual(way_of(answer[1]), turned(out))
            self.case.assertEqual(read_packet(write_packet(answer[1])), answer[1])
        if answer == ("new",) and may_open(given):
            self.open(given)

    def open(self, given):
        before = self.book
        fate, chosen = fate_for(self.draw, self.ground, given, self.pools)
        plan = planned(self.ground, fate, SHORT, given, chosen)
        if plan[0] == "drop":
            return
        self.book, answer = calm(self.case, opened, before, self.moment, given, plan, self.version, self.draw.choice([3, 12]))
        if answer[0] == "drop":
            self.case.assertEqual(self.book, before)
        else:
            self.case.assertEqual((answer[2], self.book["next"]), (before["next"], before["next"] + self.workers))

    def look(self, before):
        """Points 152, 164, 165 and 166, and that the dicts of the book fit together."""
        case, value = self.case, self.book
        flows, ways, bindings = value["flows"], value["ways"], value["bindings"]
        due = {}
        for number, flow in flows.items():
            case.assertEqual((flow[0], number % self.workers), (number, value["part"]))
            case.assertGreater(flow[4], self.moment - 1)
            due[flow[1]], due[flow[2]] = (number, 0), (number, 1)
            case.assertEqual(flow[3], flow[8][0] if flow[8] else flow[3])
        case.assertEqual((ways, len(ways)), (due, 2 * len(flows)))
        holders = {}
        for flow in flows.values():
            if flow[7] is not None:
                holders[flow[7]] = holders.get(flow[7], 0) + 1
                case.assertEqual(flow[7][1:], flow[1][:3])
                case.assertEqual(bindings[flow[7]][:2], flow[2][3:])
        case.assertEqual({key: row[2] for key, row in bindings.items()}, holders)
        ends = [(key[1],) + row[:2] for key, row in bindings.items()]
        case.assertEqual(len(ends), len(set(ends)))
        pairs = {}
        for key, row in bindings.items():
            case.assertEqual(row[1] % self.workers, value["part"])
            case.assertEqual(pairs.setdefault((key[0], key[2]), row[0]), row[0])
            case.assertFalse(value["resting"].get((key[1],) + row[:2], 0) > self.moment)
            if key not in before["bindings"]:
                case.assertGreaterEqual(self.moment - self.given.get((key[1],) + row[:2], -60), 60)
                case.assertGreaterEqual(self.moment, (self.fall or -60) + 60)
        for end, until in value["resting"].items():
            self.given[end] = until - 60


class Rows(unittest.TestCase):
    def test_rows_of_deeds(self):
        opened_flows = 0
        for seed in range(60):
            row = Row(self, seed)
            for _ in range(70):
                row.deed()
            opened_flows += row.book["next"] // row.workers
        # The rows are worth looking at only if flows were opened in them.
        self.assertGreater(opened_flows, 1000)

    def test_swept_twice_is_swept_once(self):
        for seed in range(40):
            row = Row(self, 1000 + seed)
            for _ in range(25):
                row.deed()
                first = row.moment + row.draw.randrange(80)
                second = first + row.draw.choice([0, 1, 30, 59, 60, 61, 100])
                self.assertEqual(swept(swept(row.book, first), second), swept(row.book, second))

    def test_nothing_but_its_flow_answers_a_way(self):
        # Whichever versions come: the answers to the packets of a flow, and the flow, are those of a book of its own.
        for seed in range(60):
            row = Row(self, 2000 + seed)
            while not row.book["flows"]:
                row.deed()
            number = row.draw.choice(list(row.book["flows"]))
            alone = self.alone(row.book, number)
            for _ in range(40):
                row.moment += row.draw.choice([0, 0, 1, 4])
                way = row.draw.choice([way for way, pair in alone["ways"].items()])
                given = known_packet(row.draw, {**alone, "ways": {way: None}})
                row.book, answer = carry(row.book, row.moment, given)
                alone, due = carry(alone, row.moment, given)
                self.assertEqual(answer, due)
                self.assertEqual(row.book["flows"].get(number), alone["flows"].get(number))
                if number not in alone["flows"]:
                    break
                row.deed()
                if row.book["flows"].get(number) != alone["flows"][number]:
                    break

    def alone(self, value, number):
        value = copy.deepcopy(value)
        flow = value["flows"][number]
        value["flows"], value["ways"] = {number: flow}, {flow[1]: (number, 0), flow[2]: (number, 1)}
        if flow[7] is not None:
            value["bindings"] = {flow[7]: value["bindings"][flow[7]][:2] + (1,)}
        return value


class Mapped:
    """Inside ends under other names (point 167)."""

    def __init__(self, draw):
        self.addresses = dict(zip(INNER, draw.sample([0x0A000000 + 7 * at for at in range(1, 30)], len(INNER))))
        self.ports, self.draw = {}, draw

    def end(self, kind, address, port):
        if address not in self.addresses:
            return (address, port)
        if port == 0:
            return (self.addresses[address], 0)
        ports = self.ports.setdefault((kind, address), {})
        while port not in ports:
            other = self.draw.randint(1, 65535)
            if other not in ports.values():
                ports[port] = other
        return (self.addresses[address], ports[port])

    def way(self, way):
        return (way[0],) + self.end(way[0], way[1], way[2]) + self.end(way[0], way[3], way[4])

    def packet(self, given):
        body = given[7]
        if body[0] != "failure":
            return moved(given, self.way(way_of(given)))
        stub = body[4]
        body = put(body, [4], moved_stub(stub, self.way(way_of_stub(stub))))
        ends = tuple(self.addresses.get(address, address) for address in given[1:3])
        return ("packet",) + ends + given[3:7] + (body,)

    def target(self, kind, end):
        return None if end is None else self.end(kind, end[0], end[1])


class Insides(unittest.TestCase):
    def test_what_is_sent_outside_tells_nothing_of_the_inside(self):
        told = 0
        for seed in range(200):
            draw = random.Random(167 + seed)
            ground, choices, mapped = ("ground", INSIDE, OWNS, 1), pools(draw), Mapped(draw)
            first, second, moment = new_book(ground, 0, None), new_book(ground, 0, None), 0
            for _ in range(50):
                moment += draw.choice([0, 0, 1, 5, 20])
                given = known_packet(draw, first) if first["ways"] and draw.randrange(2) else fresh_packet(draw)
                other = mapped.packet(given)
                first, answer = carry(first, moment, given)
                second, due = carry(second, moment, other)
                if answer == ("new",) and may_open(given):
                    self.assertEqual(due, ("new",))
                    plan = self.plan(draw, ground, choices, given)
                    kind = way_of(given)[0]
                    first, answer = opened(first, moment, given, plan, 1, 30)
                    second, due = opened(second, moment, other, (mapped.target(kind, plan[0]),) + plan[1:], 1, 30)
                if answer[0] != "out" or side_of(ground, answer[1]) == "out":
                    self.assertEqual(answer, due)
                    told += answer[0] == "out"
                else:
                    self.assertEqual(mapped.packet(answer[1]), due[1])
        self.assertGreater(told, 1000)

    def plan(self, draw, ground, choices, given):
        """Return a plan that gives an inside source a pool, and an outside source an inside target."""
        kind = way_of(given)[0]
        target = (draw.choice(INNER), 0 if kind == "echo" else draw.choice([53, 80]))
        if is_inside(ground, given[1]):
            return (target if is_own(ground, given[2]) else None, draw.choice(choices), SHORT)
        return (target, None, SHORT)


class Hairpins(unittest.TestCase):
    """Point 172."""

    def test_only_own_ends(self):
        ground, of = ("ground", INSIDE, OWNS, 1), ("pool", (OWN, OWN + 1), 40000, 40100)
        for body in (udp(7, 53), echo(ident=7), tcp(2, 1000, 0, 500, source_port=7, target_port=53)):
            for total in (0, 1, 0x1234, 65535):
                ask = packet(body, PC, OWN + 2)
                plan = planned(ground, ("forward", "web", of), SHORT, ask, (HOST, 8080))
                value, answer = opened(new_book(ground, 0, None), 5, ask, plan, 1, 9)
                got = [answer[1]]
                first, back = value["flows"][1][1:3]
                self.assertEqual(back[1], HOST)
                for way, seq in ((back, 5000), (first, 1000)):
                    given = packet_by(way, segment=tcp(18 if way == back else 16, seq, 1001))
                    value, answer = carry(value, 6, given)
                    got += [answer[1]] if answer[0] == "out" else []
                for way in (first, back):
                    for source in (way[1], PC + 9, OWN, ROUTER):
                        stub = stub_by(turned(way), total=total, seq=1000 if way == back else 5000)
                        given = packet(failure("unreachable", 3, 0, stub), source, way[3])
                        value, answer = carry(value, 7, given)
                        self.assertEqual(answer[0], "out")
                        got.append(answer[1])
                self.assertGreaterEqual(len(got), 10)
                for sent in got:
                    self.look(ground, sent)

    def look(self, ground, sent):
        self.assertIn(sent[2], (PC, HOST))
        others = [sent[1]]
        if sent[7][0] == "failure":
            stub = sent[7][4]
            self.assertEqual(stub[1], sent[2])
            others.append(stub[2])
        for address in others:
            # What a stranger outside says bears the stranger's own address.
            self.assertTrue(is_own(ground, address) or address == ROUTER)
            self.assertFalse(is_inside(ground, address))


class SentAndQuoted(unittest.TestCase):
    """Failures come back to the end that sent the packet, and quote just what it sent."""

    def test_there_and_back(self):
        for seed in range(150):
            draw = random.Random(170 + seed)
            ground = ("ground", INSIDE, OWNS, 1)
            value, given = new_book(ground, 0, None), fresh_packet(draw)
            fate, chosen = fate_for(draw, ground, given, pools(draw))
            plan = planned(ground, fate, SHORT, given, chosen)
            if plan[0] == "drop" or not may_open(given) or given[3] == 1:
                continue
            value, answer = opened(value, 3, given, plan, 1, 9)
            if answer[0] != "out":
                continue
            self.there_and_back(draw, value, given, answer[1])
            back = value["flows"][1][2]
            reply = packet_by(back, 9, segment=tcp(18, 5000, given[7][3] + 1 if back[0] == "tcp" else 0, 600))
            value, answer = carry(value, 4, reply)
            self.there_and_back(draw, value, reply, answer[1])

    def there_and_back(self, draw, value, given, sent):
        way, stub = turned(way_of(sent)), stub_of(sent)
        source = draw.choice([way[1], ROUTER])
        value, answer = carry(value, 5, packet(failure("exceeded", 0, 0, stub), source, sent[1]))
        self.assertEqual(answer[0], "out", (answer, stub))
        due = stub_of(given)
        quoted = answer[1][7][4]
        # It quotes the packet with the hops that it had then.
        self.assertEqual(quoted, due[:3] + (sent[3],) + due[4:])
        self.assertEqual(answer[1][2], given[1])


class Steered(unittest.TestCase):
    """Point 186."""

    def test_all_packets_of_a_flow_go_to_one_worker(self):
        workers_seen = {}
        for seed in range(400):
            draw = random.Random(186 + seed)
            workers = draw.randint(1, 4)
            ground = ("ground", INSIDE, OWNS, workers)
            outer = draw.choice([SERVER, ROUTER, draw.randint(0x01000000, 0x08FFFFFF)])
            given = draw.choice([
                fresh_packet(draw), packet(udp(), PC, outer), packet(udp(9, 80), outer, OWN), packet(echo(), PC, outer),
                packet(udp(), outer, outer + 5), packet(udp(), PC, HOST), packet(tcp(2), PC, outer),
            ])
            fate, chosen = fate_for(draw, ground, given, pools(draw))
            plan = planned(ground, fate, SHORT, given, chosen)
            if plan[0] == "drop" or not may_open(given):
                continue
            given = given[:3] + (64,) + given[4:]
            worker = calm(self, steered, ground, write_packet(given))
            value, answer = opened(new_book(ground, worker, None), 3, given, plan, 1, 9)
            if answer[0] != "out":
                continue
            workers_seen[workers, worker] = True
            for way in value["flows"][answer[2]][1:3]:
                for other in (packet_by(way), packet(failure(stub=stub_by(turned(way))), ROUTER, way[3]),
                              packet(failure(stub=stub_by(turned(way))), HOST, way[3])):
                    self.assertIn(way_of(other), value["ways"])
                    self.assertEqual(steered(ground, write_packet(other)), worker)
        self.assertEqual(len(workers_seen), 10)


if __name__ == "__main__":
    unittest.main()
