"""What the edge answers by itself (points 180 and 181)."""

from onepolicy.ground import is_own
from onepolicy.packet_writing import stub_of
from onepolicy.talks import ACK, ACKED, FLAGS, RST, RST_ACK, segment_end

# The hops, the name, the service and the whole of all answers.
HEADER = (64, 0, 0, 0)


def own_for(ground, packet):
    """Return the own address for a packet."""
    return packet[2] if is_own(ground, packet[2]) else min(ground[2])


def _is_answered(packet):
    """Return whether a packet gets an answer: none must ever answer an answer."""
    body = packet[7]
    if body[0] == "tcp":
        return not body[FLAGS] & RST
    return body[0] == "udp" or body[0] == "echo" and body[1] == "ask"


def _failing(ground, packet, kind, code):
    body = ("failure", kind, code, 0, stub_of(packet))
    return ("packet", own_for(ground, packet), packet[1]) + HEADER + (body,)


def expired(ground, packet):
    """Return the answer to a packet that has no hops left, or None."""
    if not _is_answered(packet):
        return None
    return _failing(ground, packet, "exceeded", 0)


def refusing(ground, packet):
    """Return the answer to a packet that is refused, or None."""
    if not _is_answered(packet):
        return None
    if packet[7][0] == "tcp":
        return reset(packet)
    return _failing(ground, packet, "unreachable", 13)


def reset(packet):
    """Return the reset of a tcp packet."""
    body = packet[7]
    if body[FLAGS] & ACK:
        numbers = (body[ACKED], 0, RST)
    else:
        numbers = (0, segment_end(body), RST_ACK)
    return ("packet", packet[2], packet[1]) + HEADER + (("tcp", body[2], body[1]) + numbers + (0, 0, (), ()),)
