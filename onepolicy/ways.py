"""Ways, and the moving of packets and stubs to them (points 120 to 122)."""

from onepolicy.octets import moved_sum


def way_of(packet):
    """Return the way of a packet."""
    body = packet[7]
    if body[0] == "failure":
        return turned(way_of_stub(body[4]))
    return _way_between(packet[1], packet[2], body)


def way_of_stub(stub):
    """Return the way of a stub."""
    return _way_between(stub[1], stub[2], stub[8])


def _way_between(source, target, part):
    """Return the way from a source to a target, for a body or the part of a stub."""
    if part[0] != "echo":
        return (part[0], source, part[1], target, part[2])
    if part[1] == "ask":
        return ("echo", source, part[2], target, 0)
    return ("echo", source, 0, target, part[2])


def turned(way):
    """Return a way with its two ends exchanged."""
    kind, source, source_port, target, target_port = way
    return (kind, target, target_port, source, source_port)


def moved(packet, way):
    """Return a packet that is no failure, moved to a way."""
    body = packet[7]
    return ("packet", way[1], way[3]) + packet[3:7] + (_named(body, way) + body[3:],)


def moved_stub(stub, way):
    """Return a stub moved to a way."""
    part = stub[8]
    rest = part[3:]
    if part[0] == "udp":
        rest = (_moved_udp_sum(stub, way),)
    elif part[0] == "echo":
        ident = _named(part, way)[2]
        rest = (part[3], moved_sum(part[4], [part[2]], [ident]))
    return ("stub", way[1], way[3]) + stub[3:8] + (_named(part, way) + rest,)


def _named(part, way):
    """Return the first three fields of a body, or of the part of a stub, by a way."""
    _, source, source_port, target, target_port = way
    if part[0] != "echo":
        return (part[0], source_port, target_port)
    return ("echo", part[1], source_port if part[1] == "ask" else target_port)


def _moved_udp_sum(stub, way):
    total = stub[8][3]
    # In udp a sum of 0 says that there is none, so none is written, and none is lost.
    if total == 0:
        return 0
    found = moved_sum(total, _pairs_of_way(way_of_stub(stub)), _pairs_of_way(way))
    return 65535 if found == 0 else found


def _pairs_of_way(way):
    _, source, source_port, target, target_port = way
    return [source // 65536, source % 65536, target // 65536, target % 65536, source_port, target_port]
