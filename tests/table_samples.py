"""Boxes, matches, tables and claims that the tests of rules take."""

import itertools

from onepolicy.boxes import GREATEST
from onepolicy.tables import decider, verdict

WHOLE = tuple(((0, greatest),) for greatest in GREATEST)
ALL = tuple((0, greatest) for greatest in GREATEST)

# What any value may be where the document says so.
ODD = (None, True, False, 0, -1, 5, 2.5, "", "x", "cut", b"", b"x", [], (), {}, [0], (0,), {0: 1}, ((0, 1),), [(0, 1)])


def match(**rows):
    """Return a match with other rows of some fields, named f0 to f5."""
    found = list(WHOLE)
    for name, row in rows.items():
        found[int(name[1])] = tuple(row)
    return tuple(found)


def box(**ranges):
    """Return a box with other ranges of some fields, named f0 to f5."""
    found = list(ALL)
    for name, part in ranges.items():
        found[int(name[1])] = part
    return tuple(found)


def rule(fate, limits=(), **rows):
    return (match(**rows), fate, tuple(limits))


def table(*rules, last="drop", limits=()):
    return (tuple(rules), (last, tuple(limits)))


def points(value):
    """Return all points of a box, ascending."""
    return itertools.product(*[range(low, high + 1) for low, high in value])


def is_true(claim, point):
    """Return whether a claim is true at a point, by the words of point 311."""
    word, first = claim[0], claim[1]
    fate = verdict(first, point)[0]
    if word == "fates":
        return fate in claim[3]
    if word == "decider":
        return decider(first, point) == claim[3]
    if word == "never":
        return decider(first, point) != claim[3]
    if word == "alike":
        return fate == verdict(claim[3], point)[0]
    return fate not in claim[3] or verdict(claim[4], point)[0] in claim[3]


def random_row(draw, field, top):
    """Return a row of up to two ranges, mostly of small numbers."""
    if draw.randrange(3) == 0:
        return ((0, GREATEST[field]),)
    numbers = sorted(draw.sample(range(top + 2), min(top + 2, 2 * draw.randint(1, 2))))
    row = []
    for low, high in zip(numbers[::2], numbers[1::2]):
        low, high = min(low, GREATEST[field]), min(high, GREATEST[field])
        if not row or row[-1][1] + 1 < low:
            row.append((low, draw.choice([low, high])))
    if draw.randrange(4) == 0:
        row[-1] = (row[-1][0], GREATEST[field])
    return tuple(row) if draw.randrange(12) else ()


def random_table(draw, most=5, top=3):
    fates = ["pass", "drop", 3, ("forward", "web", None)]
    rules = []
    for _ in range(draw.randint(0, most)):
        rows = tuple(random_row(draw, field, top) for field in range(6))
        rules.append((rows, draw.choice(fates), draw.choice([(), ("few",)])))
    return (tuple(rules), (draw.choice(fates), ()))


def random_box(draw, top=3):
    found = []
    for greatest in GREATEST:
        low = draw.randint(0, min(top, greatest))
        found.append((low, min(low + draw.randrange(3), greatest)))
    return tuple(found)


def random_claim(draw):
    first, value, word = random_table(draw), random_box(draw), draw.choice(["fates", "decider", "never", "alike", "within"])
    other = random_table(draw)
    if draw.randrange(3) == 0:
        other = (tuple(draw.sample(first[0], len(first[0]))), first[1])
    fates = draw.sample(["pass", "drop", 3, ("forward", "web", None)], draw.randint(0, 4))
    if word == "fates":
        return (word, first, value, fates)
    if word in ("decider", "never"):
        return (word, first, value, draw.randint(0, len(first[0])))
    if word == "alike":
        return (word, first, value, other)
    return (word, first, value, fates, other)
