"""The judge of logs (points 750 and 751)."""

from onepolicy.door import is_whole
from onepolicy.judge_events import Events
from onepolicy.plain import Plain
from onepolicy.sameness import is_same

# How many parts the rows of logs have.
ROWS = {"came": 6, "did": 4, "stamp": 2, "gave up": 4, "fell": 3, "lost": 2}


def judge(ground, versions, log):
    """Return None, or the pair of the index of the first row of a log that is wrong, and of its word."""
    record = Record(ground, versions)
    for index, row in enumerate(log):
        word = "form"
        if _has_form(ground[3], row):
            word = record.word_of(row)
        if word is not None:
            return (index, word)
    return None


def _has_form(workers, row):
    """Return whether a value of any kind is a row of a log with so many workers."""
    if not isinstance(row, tuple) or len(row) == 0 or not isinstance(row[0], str):
        return False
    if len(row) != ROWS.get(row[0], 0):
        return False
    if row[0] == "came":
        return all([is_whole(number, 0) for number in row[1:5]]) and isinstance(row[5], tuple) and len(row[5]) > 0
    if row[0] == "did":
        return is_whole(row[1], 1) and isinstance(row[2], tuple) and isinstance(row[3], tuple)
    if row[0] == "fell":
        return _is_worker(workers, row[1]) and is_whole(row[2], 0)
    if row[0] == "gave up":
        return is_whole(row[1], 1) and _is_worker(workers, row[2]) and row[3] == "room"
    return is_whole(row[1], 1)


def _is_worker(workers, value):
    return is_whole(value, 0) and value < workers


class Record:
    """What the judge knows behind the rows that were right."""

    def __init__(self, ground, versions):
        self.ground = ground
        self.versions = versions
        self.events = Events(ground)
        # The rows of all that came, by their numbers, and for each worker the numbers that are neither done nor lost.
        self.came = {}
        self.moment = 0
        self.due = [{} for _ in range(ground[3])]
        self.stamp = 1
        self.given_up = {}
        # Of each worker: the plain worker, the greatest number that it has done, and that which came before it fell.
        self.plains = [Plain(ground, w, None) for w in range(ground[3])]
        self.done = [0 for _ in range(ground[3])]
        self.fallen = [0 for _ in range(ground[3])]
        # The numbers that are to be lost next, as a worker fell.
        self.lost = []

    def word_of(self, row):
        """Take a row of the right form; return the word of its fault, or None if it is right."""
        if row[0] == "came":
            return self._word_of_came(row)
        if row[0] == "did":
            return self._word_of_did(row)
        if row[0] == "stamp":
            return self._word_of_stamp(row)
        if row[0] == "gave up":
            return self._word_of_gave_up(row)
        return self._word_of_fell(row) if row[0] == "fell" else self._word_of_lost(row)

    def _word_of_came(self, row):
        _, n, moment, v, w, event = row
        if n != len(self.came) + 1:
            return "number"
        if moment < self.moment:
            return "moment"
        if v != self.stamp:
            return "stamp"
        if not self.events.can_come(moment, w, event):
            return "worker"
        if len(self.lost) > 0:
            return "lost"
        self.events.take(moment, w, event)
        self.came[n] = row
        self.moment = moment
        self.due[w][n] = True
        return None

    def _word_of_did(self, row):
        n = row[1]
        word = self._word_of_number(n)
        if word is not None:
            return word
        w = self.came[n][4]
        if n <= self.fallen[w]:
            return "left"
        if n < self.done[w]:
            return "order"
        if len(self.lost) > 0:
            return "lost"
        _, _, moment, v, _, event = self.came[n]
        outputs, fates = self.plains[w].take(self.versions, n, moment, v, event)
        if not is_same(row[2], tuple(outputs)) or not is_same(row[3], tuple(fates)):
            return "done"
        self.done[w] = n
        del self.due[w][n]
        return None

    def _word_of_number(self, n):
        """Return the word of the fault of a number that is done or lost, or None."""
        if n not in self.came:
            return "unknown"
        return None if n in self.due[self.came[n][4]] else "twice"

    def _word_of_stamp(self, row):
        v = row[1]
        if v <= self.stamp or v in self.given_up or v not in self.versions:
            return "stamp"
        if len(self.lost) > 0:
            return "lost"
        self.stamp = v
        return None

    def _word_of_gave_up(self, row):
        v = row[1]
        if v <= self.stamp or v in self.given_up:
            return "stamp"
        if len(self.lost) > 0:
            return "lost"
        self.given_up[v] = True
        return None

    def _word_of_fell(self, row):
        _, w, moment = row
        if len(self.lost) > 0:
            return "lost"
        if moment != self.moment:
            return "fell"
        self.lost = sorted(self.due[w])
        self.fallen[w] = len(self.came)
        self.plains[w] = Plain(self.ground, w, moment)
        return None

    def _word_of_lost(self, row):
        n = row[1]
        word = self._word_of_number(n)
        if word is not None:
            return word
        if len(self.lost) == 0 or n != self.lost[0]:
            return "lost"
        self.lost = self.lost[1:]
        del self.due[self.came[n][4]][n]
        return None
