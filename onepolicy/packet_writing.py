"""Packets as octets, and the stubs of packets (points 104 to 106)."""

from onepolicy.errors import Beyond
from onepolicy.octets import four, number_of, two
from onepolicy.packet_header import PROTOCOLS, write_header
from onepolicy.packet_sums import SUM_PLACES, due_sum, with_sum
from onepolicy.packets import fault, size_of
from onepolicy.stubs import write_stub


def write_packet(packet):
    """Return the list of the octets of a packet; raise Beyond with its fault."""
    found = fault(packet)
    if found is not None:
        raise Beyond(found)
    return write_header(packet[1:7], size_of(packet), packet[7][0]) + _write_body(packet)


def stub_of(packet):
    """Return the stub of a packet that is no failure."""
    body = packet[7]
    if body[0] == "tcp":
        part = body[:4]
    else:
        place = SUM_PLACES[PROTOCOLS[body[0]]]
        total = number_of(_write_body(packet)[place:place + 2])
        # In udp ports stand ahead of the sum, in echoes the way, the ident and the number.
        part = (body[:3] if body[0] == "udp" else body[:4]) + (total,)
    return ("stub",) + packet[1:7] + (size_of(packet), part)


def _write_body(packet):
    """Return the octets of the body of a packet, with the sum."""
    body = packet[7]
    if body[0] == "udp":
        blank = _blank_udp(body)
    elif body[0] == "tcp":
        blank = _blank_tcp(body)
    elif body[0] == "echo":
        blank = _blank_echo(body)
    else:
        blank = _blank_failure(body)
    if body[0] == "udp" and body[3] == 0:
        return blank
    protocol = PROTOCOLS[body[0]]
    return with_sum(blank, protocol, due_sum(blank, protocol, packet[1], packet[2]))


# Each of these has 0 in the place of the sum.


def _blank_udp(body):
    _, source_port, target_port, summed, data = body
    return two(source_port) + two(target_port) + two(8 + len(data)) + [0, 0] + list(data)


def _blank_tcp(body):
    _, source_port, target_port, seq, ack, flags, window, urgent, options, data = body
    start = two(source_port) + two(target_port) + four(seq) + four(ack)
    middle = [16 * (5 + len(options) // 4), flags] + two(window) + [0, 0] + two(urgent)
    return start + middle + list(options) + list(data)


def _blank_echo(body):
    _, way, ident, number, data = body
    return [8 if way == "ask" else 0, 0, 0, 0] + two(ident) + two(number) + list(data)


def _blank_failure(body):
    _, kind, code, room, stub = body
    return [3 if kind == "unreachable" else 11, code, 0, 0, 0, 0] + two(room) + write_stub(stub)
