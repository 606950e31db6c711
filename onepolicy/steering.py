"""Steering: which worker gets a packet (points 185 and 186)."""

from onepolicy.errors import Unread
from onepolicy.ground import is_inside, is_own
from onepolicy.packet_reading import read_packet
from onepolicy.ways import way_of


def mixed(address):
    """Return the mixed number of an address."""
    return address * 2654435761 % 2 ** 32 // 65536


def steered(ground, octets):
    """Return the number of the worker for a list or tuple of octets."""
    try:
        packet = read_packet(list(octets))
    except Unread:
        return 0
    _, source, _, target, _ = way_of(packet)
    # Only what is outside stands in the ways of both directions, whatever becomes of the others.
    outside = [end for end in (source, target) if not is_inside(ground, end) and not is_own(ground, end)]
    if len(outside) == 0:
        return 0
    return mixed(min(outside)) % ground[3]
