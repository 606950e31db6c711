"""The sums of bodies (point 106), for those who write and those who read packets."""

from onepolicy.octets import four, sum_number, two

# Where the two octets of the sum stand in a body, by its protocol.
SUM_PLACES = {17: 6, 6: 16, 1: 2}


def with_sum(body, protocol, total):
    """Return the octets of a body with a sum in its place."""
    place = SUM_PLACES[protocol]
    return body[:place] + two(total) + body[place + 2:]


def due_sum(body, protocol, source, target):
    """Return the sum that is due in the octets of a body, whatever stands there."""
    blank = with_sum(body, protocol, 0)
    if protocol == 1:
        return sum_number(blank)
    total = sum_number(four(source) + four(target) + [0, protocol] + two(len(body)) + blank)
    # In udp a sum of 0 says that there is none.
    if protocol == 17 and total == 0:
        return 65535
    return total
