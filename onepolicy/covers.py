"""Covers of claims, and the checker that accepts them (points 312 to 314)."""

from onepolicy.boxes import GREATEST, is_number, parted
from onepolicy.fields import whole_within
from onepolicy.tables import fate_of


def meets_range(row, part):
    """Return whether some range of a row has a number of a range."""
    low, high = part
    for start, end in row:
        if start <= high and low <= end:
            return True
    return False


def contains_range(row, part):
    """Return whether one range of a row alone has all numbers of a range."""
    low, high = part
    for start, end in row:
        if start <= low and high <= end:
            return True
    return False


def meets(match, box):
    """Return whether a match meets a box."""
    for row, part in zip(match, box):
        if not meets_range(row, part):
            return False
    return True


def contains(match, box):
    """Return whether a match contains a box."""
    for row, part in zip(match, box):
        if not contains_range(row, part):
            return False
    return True


def meeting(table, box):
    """Return the list of the indexes of the rules whose matches meet a box."""
    return [index for index, rule in enumerate(table[0]) if meets(rule[0], box)]


def decides(table, box, index):
    """Return whether the leaf ("rule", index) is right for a box."""
    return _is_decided(table, box, meeting(table, box), index)


def is_alike(table, box, index):
    """Return whether the leaf ("fate", index) is right for a box."""
    return _is_alike(table, box, meeting(table, box), index)


# In these two, met are the indexes of the rules that meet the box.


def _is_decided(table, box, met, index):
    rules = table[0]
    if index == len(rules):
        return len(met) == 0
    # What contains a box meets it, too.
    return len(met) > 0 and met[0] == index and contains(rules[index][0], box)


def _is_alike(table, box, met, index):
    rules = table[0]
    if not 0 <= index <= len(rules):
        return False
    fate = fate_of(table, index)
    for other in met:
        if rules[other][1] != fate:
            return False
        if contains(rules[other][0], box):
            return True
    return fate_of(table, len(rules)) == fate


def tables_of(claim):
    """Return the tuple of the tables of a claim."""
    if claim[0] == "alike":
        return (claim[1], claim[3])
    if claim[0] == "within":
        return (claim[1], claim[4])
    return (claim[1],)


def agrees(claim, leaf):
    """Return whether a leaf that is right agrees with a claim."""
    word, table = claim[0], claim[1]
    if word == "decider":
        return leaf[0] == "rule" and leaf[1] == claim[3]
    if word == "never":
        return leaf[0] == "rule" and leaf[1] != claim[3]
    fate = fate_of(table, leaf[1])
    if word == "fates":
        return fate in claim[3]
    other = fate_of(tables_of(claim)[1], leaf[2])
    if word == "alike":
        return fate == other
    return fate not in claim[3] or other in claim[3]


def accepts(claim, cover):
    """Return whether a cover, a value of any kind, is accepted for a claim."""
    if not isinstance(cover, list):
        return False
    tables, box = tables_of(claim), claim[2]
    # Beside each box on the pile stand the rules of each table that meet it: a part of it meets no others.
    pile = [(box, [meeting(table, box) for table in tables])]
    for node in cover:
        if len(pile) == 0 or not isinstance(node, tuple):
            return False
        box, mets = pile.pop()
        if _is_cut(node, box):
            below, others = parted(box, node[1], node[2])
            pile.append((others, _kept(tables, mets, others, node[1])))
            pile.append((below, _kept(tables, mets, below, node[1])))
        elif not _is_right(tables, box, mets, node) or not agrees(claim, node):
            return False
    return len(pile) == 0


def _kept(tables, mets, box, field):
    """Return, for each table, those of the rules that still meet a box that was cut in a field."""
    part = box[field]
    return [
        [index for index in met if meets_range(table[0][index][0][field], part)]
        for table, met in zip(tables, mets)
    ]


def _is_cut(node, box):
    if len(node) != 3 or node[0] != "cut" or not whole_within(node[1], 0, len(GREATEST) - 1):
        return False
    low, high = box[node[1]]
    return whole_within(node[2], low + 1, high)


def _is_right(tables, box, mets, leaf):
    """Return whether a tuple is a leaf that is right for a box."""
    if len(leaf) != 1 + len(tables) or leaf[0] not in ("rule", "fate"):
        return False
    for table, met, index in zip(tables, mets, leaf[1:]):
        if not is_number(index):
            return False
        if leaf[0] == "rule" and not _is_decided(table, box, met, index):
            return False
        if leaf[0] == "fate" and not _is_alike(table, box, met, index):
            return False
    return True
