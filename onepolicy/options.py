"""The shift in the options of tcp (point 124)."""


def shift_of(options):
    """Return the shift of options, or None."""
    at = 0
    while at < len(options) and options[at] != 0:
        length = _length_at(options, at)
        if length is None:
            return None
        if options[at] == 3 and length == 3:
            return min(options[at + 2], 14)
        at += length
    return None


def _length_at(options, at):
    """Return the number of octets of the option at a place, or None if options end there."""
    if options[at] == 1:
        return 1
    if at + 1 == len(options):
        return None
    length = options[at + 1]
    if length < 2 or at + length > len(options):
        return None
    return length
