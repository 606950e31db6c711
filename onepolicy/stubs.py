"""Stubs: what failures quote of packets (points 104 and 107)."""

from onepolicy.fields import is_port, within
from onepolicy.octets import four, number_of, two
from onepolicy.packet_header import fault_of_header, write_header


def is_stub(stub):
    """Return whether what has the form of a stub is one."""
    size, part = stub[7:]
    return fault_of_header(stub[1:7], 0) is None and within(size, 28, 1500) and _is_part(part, size)


def _is_part(part, size):
    if part[0] == "echo":
        _, way, ident, number, total = part
        return is_port(ident) and within(number, 0, 65535) and within(total, 0, 65535)
    kind, source_port, target_port, last = part
    if not is_port(source_port) or not is_port(target_port):
        return False
    if kind == "udp":
        return within(last, 0, 65535)
    return within(last, 0, 4294967295) and size >= 40


def write_stub(stub):
    """Return the list of the 28 octets of a stub."""
    size, part = stub[7:]
    return write_header(stub[1:7], size, part[0]) + _write_part(part, size)


def _write_part(part, size):
    if part[0] == "echo":
        _, way, ident, number, total = part
        return [8 if way == "ask" else 0, 0] + two(total) + two(ident) + two(number)
    kind, source_port, target_port, last = part
    ports = two(source_port) + two(target_port)
    if kind == "udp":
        return ports + two(size - 20) + two(last)
    return ports + four(last)


def read_stub(octets):
    """Return the stub that a list of 28 octets is, or None."""
    if len(octets) != 28:
        return None
    part = _read_part(octets)
    if part is None:
        return None
    ends = (number_of(octets[12:16]), number_of(octets[16:20]))
    name, size = number_of(octets[4:6]), number_of(octets[2:4])
    stub = ("stub",) + ends + (octets[8], name, octets[1], octets[6] // 64, size, part)
    # What was not looked at (the sum, the odd bits) is right if it is written so again.
    if is_stub(stub) and write_stub(stub) == list(octets):
        return stub
    return None


def _read_part(octets):
    protocol, kind = octets[9], octets[20]
    first, second = number_of(octets[20:22]), number_of(octets[22:24])
    third, fourth = number_of(octets[24:26]), number_of(octets[26:28])
    if protocol == 17:
        return ("udp", first, second, fourth)
    if protocol == 6:
        return ("tcp", first, second, number_of(octets[24:28]))
    if protocol == 1 and kind in (0, 8):
        return ("echo", "ask" if kind == 8 else "answer", third, fourth, second)
    return None
