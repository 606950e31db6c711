"""Boxes cut where rules begin and end, field by field: what settles claims (points 315 and 316).

A state is a pair (field, rows): the fields below this one are cut so that no rule begins or ends in them, the others
are those of the whole box. The rows are, for each table, the indexes of the rules that meet such a box, up to the
first one that contains it. So all boxes with one state are decided alike, and are settled once.
"""

from onepolicy.boxes import GREATEST
from onepolicy.covers import contains_range, meeting, meets_range
from onepolicy.tables import fate_of


class Cells:
    """The box of a claim, and how the rules of its tables cut it."""

    def __init__(self, tables, box):
        self.tables = tables
        self.box = box
        self.wholes = [[_whole_from(rule[0], box) for rule in table[0]] for table in tables]
        self.fates = _numbered_fates(tables)

    def start(self):
        """Return the state of the whole box."""
        return self._state(0, [meeting(table, self.box) for table in self.tables])

    def _state(self, field, mets):
        rows = []
        for wholes, met in zip(self.wholes, mets):
            many = 0
            while many < len(met) and (many == 0 or wholes[met[many - 1]] > field):
                many += 1
            rows.append(tuple(met[:many]))
        return (field, tuple(rows))

    def leaf(self, word, state):
        """Return the tuple of the indexes of the leaf with a word for a state, or None if it must be cut."""
        field, rows = state
        found = []
        for at, met in enumerate(rows):
            if word == "rule":
                index = self._decider(at, met, field)
            else:
                index = self._fated(at, met, field)
            if index is None:
                return None
            found.append(index)
        return tuple(found)

    def _decider(self, at, met, field):
        """Return the index that decides all of a box in a table, or None."""
        if len(met) == 0:
            return len(self.wholes[at])
        return met[0] if self.wholes[at][met[0]] <= field else None

    def _fated(self, at, met, field):
        """Return an index that has the fate of all of a box in a table, or None."""
        fates, last = self.fates[at], len(self.wholes[at])
        deciding = list(met)
        # Where no rule contains the box, the last fate may decide some of its points, too.
        if len(met) == 0 or self.wholes[at][met[-1]] > field:
            deciding.append(last)
        if not all([fates[index] == fates[deciding[0]] for index in deciding]):
            return None
        return deciding[0]

    def parts(self, state):
        """Return the pair of the field in which a state is cut, and the list of the pairs (low number, state) there."""
        field, rows = state
        lows = []
        # A state that is no leaf has a rule that does not contain the box, so some field is to be cut.
        while len(lows) == 0:
            lows = self._lows(field, rows)
            field += 1
        parts = []
        for low in [self.box[field - 1][0]] + lows:
            part = self._state(field, self._having(rows, field - 1, low))
            # Boxes side by side with one state are one box: who meets both has one range in both.
            if len(parts) == 0 or parts[-1][1] != part:
                parts.append((low, part))
        return (field - 1, parts)

    def _lows(self, field, rows):
        """Return the numbers of a field, ascending, at which rules begin, or have just ended, in the box."""
        low, high = self.box[field]
        found = {}
        for table, met in zip(self.tables, rows):
            for index in met:
                for start, end in table[0][index][0][field]:
                    found[start] = True
                    found[end + 1] = True
        return [number for number in sorted(found) if low < number <= high]

    def _having(self, rows, field, number):
        """Return, for each table, those of the rules that have a number of a field."""
        part = (number, number)
        return [
            [index for index in met if meets_range(table[0][index][0][field], part)]
            for table, met in zip(self.tables, rows)
        ]


def _whole_from(match, box):
    """Return the least field from which on a match has all numbers of a box."""
    field = len(GREATEST)
    while field > 0 and contains_range(match[field - 1], box[field - 1]):
        field -= 1
    return field


def _numbered_fates(tables):
    """Return, for each table, the list of its fates as numbers: equal ones have equal numbers, in all tables."""
    fates = [fate_of(table, index) for table in tables for index in range(len(table[0]) + 1)]
    return [[fates.index(fate_of(table, index)) for index in range(len(table[0]) + 1)] for table in tables]
