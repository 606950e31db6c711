"""Octets, their pairs and the sums that guard them (points 100 and 101)."""


def two(number):
    """Return the two octets of a number, the greatest part first."""
    return [number // 256, number % 256]


def four(number):
    """Return the four octets of a number, the greatest part first."""
    return two(number // 65536) + two(number % 65536)


def number_of(octets):
    """Return the number whose parts these octets are, the greatest part first."""
    number = 0
    for octet in octets:
        number = number * 256 + octet
    return number


def folded(octets):
    """Return the folded number of a list of octets."""
    # Behind an odd last octet a 0 is thought, so that octet counts as a high one.
    total = 256 * sum(octets[0::2]) + sum(octets[1::2])
    if total == 0:
        return 0
    return (total - 1) % 65535 + 1


def sum_number(octets):
    """Return the sum number of a list of octets."""
    return 65535 - folded(octets)


def moved_sum(number, olds, news):
    """Return the sum number that is kept while some pairs change from olds to news."""
    rest = (65535 - number - sum(olds) + sum(news)) % 65535
    if rest == 0:
        return 0
    return 65535 - rest
