"""Claims of tables: whether they are true, and what shows it (points 311, 315 and 316)."""

from onepolicy.boxes import least_point, whole_box
from onepolicy.cells import Cells
from onepolicy.covers import agrees, tables_of
from onepolicy.tables import decider


def is_true_at(claim, point):
    """Return whether a claim is true at a point of its box."""
    # Deciders are leaves of a box of one point.
    return agrees(claim, ("rule",) + tuple([decider(table, point) for table in tables_of(claim)]))


def settle(claim):
    """Return ("paper", cover) for a claim that is true, otherwise ("contrary", point)."""
    word = "rule" if claim[0] in ("decider", "never") else "fate"
    return _settled(Cells(tables_of(claim), claim[2]), word, lambda leaf: agrees(claim, leaf))


def differs(table, other, box):
    """Return the least point of a box with unlike fates in two tables, or None."""
    word, found = settle(("alike", table, box, other))
    return found if word == "contrary" else None


def changed(table, other, box):
    """Return a cover of a box whose leaves tell the fates of all points in two tables."""
    return _settled(Cells((table, other), box), "fate", lambda leaf: True)[1]


def _settled(cells, word, is_right):
    return _settled_state(cells, word, is_right, cells.start(), {})


def _settled_state(cells, word, is_right, state, known):
    """Return ("paper", nodes) for a state, or ("contrary", the least numbers from its field on).

    What is found of a state is kept in known, which this changes.
    """
    if state not in known:
        leaf = cells.leaf(word, state)
        if leaf is None:
            known[state] = _settled_parts(cells, word, is_right, state, known)
        elif is_right((word,) + leaf):
            known[state] = ("paper", [(word,) + leaf])
        else:
            known[state] = ("contrary", least_point(cells.box)[state[0]:])
    return known[state]


def _settled_parts(cells, word, is_right, state, known):
    field, parts = cells.parts(state)
    nodes = []
    for at, (low, part) in enumerate(parts):
        if at + 1 < len(parts):
            nodes.append(("cut", field, parts[at + 1][0]))
        told, found = _settled_state(cells, word, is_right, part, known)
        # Fields are cut in their order, the lesser numbers first: so the first point is the least one.
        if told == "contrary":
            return (told, least_point(cells.box)[state[0]:field] + (low,) + found)
        nodes.extend(found)
    return ("paper", nodes)


def met(table):
    """Return the list of the least points that each index decides, or None."""
    cells = Cells((table,), whole_box())
    found = _firsts(cells, cells.start(), {})
    return [found.get(index) for index in range(len(table[0]) + 1)]


def _firsts(cells, state, known):
    """Return a dict from the indexes that decide points of a state to the least numbers of these from its field on.

    What is found of a state is kept in known, which this changes.
    """
    if state not in known:
        leaf = cells.leaf("rule", state)
        if leaf is None:
            known[state] = _firsts_of_parts(cells, state, known)
        else:
            known[state] = {leaf[0]: least_point(cells.box)[state[0]:]}
    return known[state]


def _firsts_of_parts(cells, state, known):
    field, parts = cells.parts(state)
    firsts = {}
    for low, part in parts:
        found = _firsts(cells, part, known)
        for index in found:
            if index not in firsts:
                firsts[index] = least_point(cells.box)[state[0]:field] + (low,) + found[index]
    return firsts
