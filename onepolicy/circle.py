"""Numbers from 0 to 2 ** 32 - 1 that go around (point 123)."""

AROUND = 2 ** 32
HALF = 2 ** 31


def after(number, steps):
    """Return the number that is some steps behind a number, or, below 0, ahead of it."""
    return (number + steps) % AROUND


def between(number, first):
    """Return the difference of a number and the first one."""
    return (number - first) % AROUND


def later(a, b):
    """Return whether a is later than b."""
    return 0 < between(a, b) < HALF


def later_one(a, b):
    """Return the later one of two numbers."""
    return a if later(a, b) else b


def lies(number, first, last):
    """Return whether a number lies from the first to the last one."""
    return between(number, first) <= between(last, first)
