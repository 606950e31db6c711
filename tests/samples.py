"""Values that several tests take, and what they ask of every call."""

import copy

PC = 0x0A000005  # 10.0.0.5
SERVER = 0x08080808  # 8.8.8.8
ROUTER = 0xC6336401  # 198.51.100.1
OWN = 0xCB007101  # 203.0.113.1

MOST = 2 ** 32


def calm(case, function, *given):
    """Return what a call returns; fail if it changes what it is handed."""
    before = copy.deepcopy(given)
    found = function(*given)
    case.assertEqual(given, before)
    return found


def put(value, path, part):
    """Return a nest of tuples with another part at a path of indexes."""
    if not path:
        return part
    at = path[0]
    return value[:at] + (put(value[at], path[1:], part),) + value[at + 1:]


def packet(body, source=PC, target=SERVER, hops=64, name=4660, service=0, whole=1):
    return ("packet", source, target, hops, name, service, whole, body)


def udp(source_port=40000, target_port=53, summed=1, data=(1, 2, 3)):
    return ("udp", source_port, target_port, summed, tuple(data))


def tcp(flags=16, seq=1000, ack=2000, window=500, urgent=0, options=(), data=(), source_port=40000, target_port=80):
    return ("tcp", source_port, target_port, seq, ack, flags, window, urgent, tuple(options), tuple(data))


def echo(way="ask", ident=77, number=1, data=(9, 8)):
    return ("echo", way, ident, number, tuple(data))


def failure(kind="unreachable", code=3, room=0, stub=None):
    return ("failure", kind, code, room, stub or udp_stub())


def stub(part, source=PC, target=SERVER, hops=63, name=4660, service=0, whole=1, size=60):
    return ("stub", source, target, hops, name, service, whole, size, part)


def udp_stub(source_port=40000, target_port=53, total=0xABCD, **fields):
    return stub(("udp", source_port, target_port, total), **fields)


def tcp_stub(source_port=40000, target_port=80, seq=1000, **fields):
    return stub(("tcp", source_port, target_port, seq), **fields)


def echo_stub(way="ask", ident=77, number=1, total=0x1234, **fields):
    return stub(("echo", way, ident, number, total), **fields)


STUBS = (
    udp_stub(), udp_stub(total=0), udp_stub(total=65535), tcp_stub(), echo_stub(), echo_stub("answer"),
    echo_stub(total=0), echo_stub(total=65535), udp_stub(hops=0, whole=0, size=28), tcp_stub(size=1500),
)

BODIES = (
    udp(), udp(summed=0), udp(data=()), tcp(), tcp(2, options=(3, 3, 7, 0)), tcp(24, data=(5,)),
    tcp(255, options=range(40), data=range(30)), echo(), echo("answer"), echo(data=()),
) + tuple(failure(stub=stub) for stub in STUBS) + (
    failure("unreachable", 4, 1400), failure("unreachable", 15), failure("exceeded", 0), failure("exceeded", 1),
)

PACKETS = tuple(packet(body) for body in BODIES) + (
    packet(udp(), hops=1, name=0, service=255, whole=0), packet(tcp(), SERVER, PC, 255, 65535),
)


def folded_by_carries(octets):
    """Return the sum of all pairs, the carries added again, as sums of the net are told elsewhere."""
    octets = list(octets) + [0] * (len(octets) % 2)
    total = sum(256 * octets[at] + octets[at + 1] for at in range(0, len(octets), 2))
    while total > 65535:
        total = total % 65536 + total // 65536
    return total
