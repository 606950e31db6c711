"""Addresses, their texts, and prefixes (point 102)."""

from onepolicy.octets import four, number_of


def is_plain(address):
    """Return whether an address is plain; of any integer."""
    first = address >> 24
    return 1 <= first <= 223 and first != 127


def show_address(address):
    """Return the text of an address."""
    return ".".join([str(octet) for octet in four(address)])


def parse_address(text):
    """Return the address of a text, or None."""
    octets = [_octet_of(word) for word in text.split(".")]
    if len(octets) != 4 or None in octets:
        return None
    return number_of(octets)


def _octet_of(word):
    """Return the octet that a word tells, or None."""
    # The length is asked first: int refuses words of thousands of digits.
    if len(word) < 1 or len(word) > 3:
        return None
    for sign in word:
        # isdigit would take digits of other scripts, too.
        if sign not in "0123456789":
            return None
    octet = int(word)
    if octet > 255 or str(octet) != word:
        return None
    return octet


def in_prefix(prefix, address):
    """Return whether a prefix has an address."""
    start, length = prefix
    low_bits = max(32 - length, 0)
    return start >> low_bits == address >> low_bits
