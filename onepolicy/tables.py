"""Rule tables: the points of packets, who decides them, and faults (points 300 to 303)."""

from onepolicy.boxes import GREATEST, is_number
from onepolicy.packet_header import PROTOCOLS
from onepolicy.ways import way_of

MOST_RULES = 24
MOST_RANGES = 4
MOST_LIMITS = 4


def point_of(side, packet):
    """Return the point of a packet that is no failure, which comes from a side."""
    way = way_of(packet)
    return (1 if side == "in" else 0, PROTOCOLS[way[0]]) + way[1:]


def row_has(row, number):
    """Return whether a range of a row has a number."""
    for low, high in row:
        if low <= number <= high:
            return True
    return False


def decider(table, point):
    """Return the index of the first rule whose match has a point, or the number of rules."""
    rules = table[0]
    for index, rule in enumerate(rules):
        if all([row_has(row, number) for row, number in zip(rule[0], point)]):
            return index
    return len(rules)


def verdict(table, point):
    """Return the pair of the fate and the limits of a point."""
    rules, last = table
    index = decider(table, point)
    if index == len(rules):
        return last
    return rules[index][1:]


def fate_of(table, index):
    """Return the fate of the rule with an index, or the last one for the number of rules."""
    rules, last = table
    return last[0] if index == len(rules) else rules[index][1]


def fault_of_table(table):
    """Return the first fault of a table, a triple (index, field, word), or None."""
    rules, last = table
    if len(rules) > MOST_RULES:
        return (MOST_RULES, None, "rules")
    for index, rule in enumerate(rules):
        match, _, limits = rule
        found = _fault_of_match(match)
        if found is not None:
            return (index,) + found
        if not _are_limits(limits):
            return (index, None, "limits")
    if not _are_limits(last[1]):
        return (len(rules), None, "limits")
    return None


def _fault_of_match(match):
    """Return the pair of the field and the word of the first fault of a match, or None."""
    if not isinstance(match, tuple) or len(match) != len(GREATEST):
        return (None, "field")
    if not all([isinstance(row, tuple) for row in match]):
        return (None, "field")
    for field, row in enumerate(match):
        word = _fault_of_row(row, GREATEST[field])
        if word is not None:
            return (field, word)
    return None


def _fault_of_row(row, greatest):
    # Only of ranges it can be asked how great they are, and in which order they stand.
    if not all([_is_range(part) for part in row]):
        return "range"
    if not all([low >= 0 and high <= greatest for low, high in row]):
        return "great"
    if not all([row[at][1] + 1 < row[at + 1][0] for at in range(len(row) - 1)]):
        return "order"
    if len(row) > MOST_RANGES:
        return "ranges"
    return None


def _is_range(part):
    if not isinstance(part, tuple) or len(part) != 2:
        return False
    low, high = part
    return is_number(low) and is_number(high) and low <= high


def _are_limits(limits):
    if not isinstance(limits, tuple) or len(limits) > MOST_LIMITS:
        return False
    if not all([isinstance(name, str) for name in limits]):
        return False
    return len({name: True for name in limits}) == len(limits)
