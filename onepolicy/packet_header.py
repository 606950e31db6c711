"""The header of packets and of stubs: its fields, and its octets (points 103 to 105)."""

from onepolicy.addresses import is_plain
from onepolicy.fields import first_wrong, within
from onepolicy.octets import four, sum_number, two

# The numbers of the kinds of bodies; echoes and failures share one.
PROTOCOLS = {"udp": 17, "tcp": 6, "echo": 1, "failure": 1}


def fault_of_header(fields, least_hops):
    """Return the name of the first of the six fields that is not right, or None."""
    source, target, hops, name, service, whole = fields
    return first_wrong([
        ("source", is_plain(source)),
        ("target", is_plain(target)),
        ("hops", within(hops, least_hops, 255)),
        ("name", within(name, 0, 65535)),
        ("service", within(service, 0, 255)),
        ("whole", within(whole, 0, 1)),
    ])


def write_header(fields, size, kind):
    """Return the 20 octets of a header with six fields, a number of all octets, and a kind of body."""
    source, target, hops, name, service, whole = fields
    start = [69, service] + two(size) + two(name) + [64 * whole, 0, hops, PROTOCOLS[kind]]
    ends = four(source) + four(target)
    return start + two(sum_number(start + ends)) + ends
