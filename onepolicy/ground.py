"""The ground of an edge, and the sides where packets come and go (points 140 and 147)."""

from onepolicy.addresses import in_prefix, is_plain
from onepolicy.fields import within
from onepolicy.ways import way_of


def fault_ground(ground):
    """Return the fault of a ground, or None."""
    _, inside, own, workers = ground
    if not _are_prefixes(inside):
        return "inside"
    if not _are_own(own, inside):
        return "own"
    if not within(workers, 1, 4):
        return "workers"
    return None


def is_ascending(values):
    """Return whether values ascend, none of them standing twice."""
    return all([values[at] < values[at + 1] for at in range(len(values) - 1)])


def _are_prefixes(inside):
    if not within(len(inside), 1, 16) or not is_ascending(inside):
        return False
    if not all([_is_plain_prefix(prefix) for prefix in inside]):
        return False
    # Of two prefixes that meet, one has the least address of the other one.
    for prefix in inside:
        for other in inside:
            if prefix != other and in_prefix(prefix, other[0]):
                return False
    return True


def _is_plain_prefix(prefix):
    """Return whether a pair of integers is a prefix all of whose addresses are plain."""
    start, length = prefix
    if not within(length, 1, 32):
        return False
    many = 1 << (32 - length)
    # A prefix that begins plainly and has an address of 127 ends with one, so its ends tell all.
    return start % many == 0 and is_plain(start) and is_plain(start + many - 1)


def _are_own(own, inside):
    if not within(len(own), 1, 64) or not is_ascending(own):
        return False
    return all([is_plain(address) and not _has_prefix(inside, address) for address in own])


def _has_prefix(inside, address):
    return any([in_prefix(prefix, address) for prefix in inside])


def is_inside(ground, address):
    """Return whether an address is inside."""
    return _has_prefix(ground[1], address)


def is_own(ground, address):
    """Return whether an address is own."""
    return address in ground[2]


def wrong_side(ground, side, packet):
    """Return whether a packet is on the wrong side."""
    for address in (packet[1], way_of(packet)[1]):
        if is_own(ground, address) or is_inside(ground, address) != (side == "in"):
            return True
    return False


def side_of(ground, packet):
    """Return the side to which a packet is sent."""
    return "in" if is_inside(ground, packet[2]) else "out"
