"""Packets, their faults and their sizes (points 103 and 108)."""

from onepolicy.fields import are_octets, first_wrong, is_port, within
from onepolicy.packet_header import fault_of_header
from onepolicy.stubs import is_stub


def fault(packet):
    """Return the name of the first field of a packet that is not right, "size", or None."""
    found = fault_of_header(packet[1:7], 1)
    if found is None:
        found = _fault_of_body(packet[7])
    if found is None and size_of(packet) > 1500:
        return "size"
    return found


def size_of(packet):
    """Return the number of octets of a packet."""
    body = packet[7]
    if body[0] == "failure":
        return 56
    if body[0] == "tcp":
        return 40 + len(body[8]) + len(body[9])
    return 28 + len(body[4])


def _fault_of_body(body):
    if body[0] == "udp":
        return _fault_of_udp(body)
    if body[0] == "tcp":
        return _fault_of_tcp(body)
    if body[0] == "echo":
        return _fault_of_echo(body)
    return _fault_of_failure(body)


def _fault_of_udp(body):
    _, source_port, target_port, summed, data = body
    return first_wrong([
        ("from", is_port(source_port)),
        ("to", is_port(target_port)),
        ("summed", within(summed, 0, 1)),
        ("data", are_octets(data)),
    ])


def _fault_of_tcp(body):
    _, source_port, target_port, seq, ack, flags, window, urgent, options, data = body
    return first_wrong([
        ("from", is_port(source_port)),
        ("to", is_port(target_port)),
        ("seq", within(seq, 0, 4294967295)),
        ("ack", within(ack, 0, 4294967295)),
        ("flags", within(flags, 0, 255)),
        ("window", within(window, 0, 65535)),
        ("urgent", within(urgent, 0, 65535)),
        ("options", len(options) <= 40 and len(options) % 4 == 0 and are_octets(options)),
        ("data", are_octets(data)),
    ])


def _fault_of_echo(body):
    _, way, ident, number, data = body
    return first_wrong([
        ("ident", is_port(ident)),
        ("number", within(number, 0, 65535)),
        ("data", are_octets(data)),
    ])


def _fault_of_failure(body):
    _, kind, code, room, stub = body
    unreachable = kind == "unreachable"
    return first_wrong([
        ("code", within(code, 0, 15 if unreachable else 1)),
        ("room", within(room, 0, 65535 if unreachable and code == 4 else 0)),
        ("stub", is_stub(stub)),
    ])
