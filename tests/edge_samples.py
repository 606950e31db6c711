"""Policies, arrivals and runs that the tests of requests, plain workers and the edge take."""

import copy

from onepolicy.packet_writing import write_packet
from onepolicy.tables import fault_of_table
from flow_samples import HOST, INSIDE, OWNS, TIMES
from samples import OWN, PC, SERVER, packet, tcp, udp
from table_samples import WHOLE, match

CLIENT = 0x09090909  # 9.9.9.9, outside
OTHER = 0x09090A0A  # 9.9.10.10, outside

POOL = ("pool", (OWN, OWN + 1), 40000, 40015)

ERRORS = (
    ("refused", 400, "bad"), ("no route", 404, "none here"), ("none", 503, "no server"), ("limit", 429, ""),
    ("broken", 502, "broken"), ("late", 504, "late"),
)


def ground(workers=1):
    return ("ground", INSIDE, OWNS, workers)


def server(name, address=PC, port=8080, weight=1, health="up"):
    return (name, address, port, weight, health)


WEB = ("web", (server("a"), server("b", PC + 1), server("c", PC + 2)), "turns", None)
DNS = ("dns", (server("d", HOST, 53), server("e", HOST + 1, 53)), "marks", None)


def route(host="*", prefix=(), methods=("GET", "HEAD", "PUT", "POST", "DELETE"), service="web", take=0, put=(), limits=(),
          wait=10, tries=2):
    return (host, tuple(prefix), tuple(methods), service, take, tuple(put), tuple(limits), wait, tries)


def to(port, kind=17, address=OWN, side=None):
    """Return the match of what goes to an address and a port."""
    rows = {"f1": ((kind, kind),), "f5": ((port, port),)}
    if address is not None:
        rows["f4"] = ((address, address),)
    if side is not None:
        rows["f0"] = ((side, side),)
    return match(**rows)


RULES = (
    (to(53), ("forward", "dns", POOL), ()),
    (to(80, 6), ("forward", "web", None), ("few",)),
    (to(25, 6, None), ("refuse",), ()),
    (match(f0=((1, 1),)), ("source", POOL), ()),
    (match(f1=((1, 1),)), ("pass",), ()),
)

LIMITS = (
    ("few", "open", (3,), ("outside",)),
    ("slow", "bucket", (1, 10, 2), ("outside",)),
    ("wide", "window", (4, 20), ()),
)


def policy(**parts):
    """Return a right policy with other values of some keys."""
    found = {
        "rules": (RULES, (("drop",), ())), "services": (WEB, DNS), "limits": LIMITS, "times": TIMES, "room": 64,
        "routes": (route(),), "headers": (), "errors": ERRORS, "trusted": (), "keep": "stay",
    }
    assert not set(parts) - set(found)
    return {**found, **parts}


def octets_of(given):
    return tuple(write_packet(given))


def text(first, headers=(("host", "a.example"),), body=None, pieces=None):
    """Return the list of the octets of a text, as one writes it by hand."""
    lines = [first] + [name + ": " + value for name, value in headers]
    tail = []
    if body is not None:
        lines.append("length: " + str(len(body)))
        tail = list(body)
    if pieces is not None:
        lines.append("transfer: pieces")
        for piece in list(pieces) + [()]:
            tail += list((format(len(piece), "x") + "\r\n").encode("ascii")) + list(piece) + [13, 10]
    return list(("\r\n".join(lines) + "\r\n\r\n").encode("ascii")) + tail


def request(method="GET", target="/", headers=(("host", "a.example"),), body=None):
    return (method, target, tuple(headers), body)


def answer(status=200, headers=(), body=()):
    return (status, tuple(headers), body)


def ask_packet(source=CLIENT, port=4000, target=OWN, to_port=53, hops=64):
    return packet(udp(port, to_port), source, target, hops)


def syn(source=CLIENT, port=4000, target=OWN, to_port=80, hops=64, seq=100):
    return packet(tcp(2, seq, 0, source_port=port, target_port=to_port), source, target, hops)
