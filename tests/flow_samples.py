"""Grounds, times, pools, plans and books that the tests of flows take."""

import copy

from onepolicy.flows import carry, may_open, new_book, opened
from onepolicy.ways import moved, turned
from samples import OWN, echo, failure, packet, stub, tcp, udp

INSIDE = ((0x0A000000, 8), (0xC0A80000, 16))
OWNS = (OWN, OWN + 1, OWN + 2)
HOST = 0xC0A80007  # 192.168.0.7, inside

TIMES = ("times", 10, 20, 300, 40, 15, 30, 120, 8, 60)
DICTS = ("flows", "ways", "bindings", "resting")


def ground(workers=1, own=OWNS):
    return ("ground", INSIDE, own, workers)


def pool(addresses=(OWN, OWN + 1), low=40000, high=40009):
    return ("pool", tuple(addresses), low, high)


def plan(target=None, of=None, times=TIMES):
    return (target, of, times)


def book(workers=1, part=0, moment=None, own=OWNS):
    return new_book(ground(workers, own), part, moment)


def enter(case, value, moment, given, by=None, version=1, room=256):
    """Return the book and the answer behind a packet that opens a flow."""
    value, answer = carry(value, moment, given)
    case.assertEqual(answer, ("new",))
    case.assertTrue(may_open(given))
    value, answer = opened(value, moment, given, by or plan(), version, room)
    case.assertEqual(answer[0], "out", answer)
    return value, answer


def packet_by(way, hops=64, data=(1, 2), segment=None):
    """Return a packet that comes by a way."""
    if way[0] == "udp":
        body = udp(data=data)
    elif way[0] == "tcp":
        body = segment or tcp(data=data)
    else:
        body = echo("answer" if way[2] == 0 else "ask", data=data)
    return moved(packet(body, hops=hops), way)


def stub_by(way, total=0x1234, seq=1000, hops=1):
    """Return a stub with a way."""
    if way[0] == "tcp":
        part = ("tcp", way[2], way[4], seq)
    elif way[0] == "udp":
        part = ("udp", way[2], way[4], total)
    elif way[2] == 0:
        part = ("echo", "answer", way[4], 5, total)
    else:
        part = ("echo", "ask", way[2], 5, total)
    return stub(part, way[1], way[3], hops=hops)


def failure_by(way, source, kind="exceeded", code=0, room=0, hops=64, **fields):
    """Return a failure that comes by a way, from any source."""
    return packet(failure(kind, code, room, stub_by(turned(way), **fields)), source, way[1], hops)


def same_but(case, before, found, **changed):
    """Fail if a book is not the one before with other values of some keys, or shares a dict with it."""
    due = {**copy.deepcopy(before), **changed}
    case.assertEqual(found, due)
    for name in DICTS:
        case.assertIsNot(found[name], before[name])
