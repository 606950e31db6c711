"""What the fields of packets, grounds and rows are asked."""

from onepolicy.boxes import is_number


def within(value, low, high):
    """Return whether an integer is from a low one to a high one."""
    return low <= value <= high


def whole_within(value, low, high):
    """Return whether a value of any kind is an integer, no truth, from a low one to a high one."""
    return is_number(value) and low <= value <= high


def is_port(value):
    """Return whether an integer is a port, or the ident of an echo."""
    return within(value, 1, 65535)


def are_octets(values):
    """Return whether integers are all octets."""
    return all([within(value, 0, 255) for value in values])


def first_wrong(rows):
    """Return the name in the first of the pairs (name, whether it is right) that is not right, or None."""
    for name, right in rows:
        if not right:
            return name
    return None
