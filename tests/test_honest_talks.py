"""Point 134: of two honest ends only what was acked is dropped."""

import random
import unittest

from onepolicy.talks import begun, segment_end, tracked
from samples import MOST, tcp

FIN, SYN, ACK = 1, 2, 16


class End:
    """One of two honest ends. All its numbers are counted from its syn, which is 0."""

    def __init__(self, draw, start, total, window, shift):
        self.draw = draw
        self.start = start
        # The number of the octets that it sends, and whether a fin is behind them.
        self.fin = total + 1 if draw.randrange(4) else None
        self.total = total
        self.shift = shift
        self.window = window
        self.told_shift = () if shift is None else (3, 3, shift, 0)
        self.limit = 1
        self.sent = 1
        self.other_start = None
        self.heard = {}
        self.shifts = 0

    def reached(self):
        """Return the number up to which all of the other side has come."""
        number = 0
        while number in self.heard:
            number = self.heard[number]
        return number

    def take(self, segment):
        flags, window = segment[5], segment[6]
        if flags & SYN:
            self.other_start = segment[3]
            # Windows are shifted only if both tell it.
            both = self.shift is not None and segment[8] != ()
            self.shifts = segment[8][2] if both else 0
        at = (segment[3] - self.other_start) % MOST
        last = (segment_end(segment) - self.other_start) % MOST
        for number in range(at, last):
            self.heard[number] = number + 1
        if flags & ACK:
            width = window if flags & SYN else window << self.shifts
            self.limit = max(self.limit, (segment[4] - self.start) % MOST + max(width, 1))

    def make(self, opener):
        """Return a segment that this end may send now, or None."""
        reached = self.reached() if self.other_start is not None else 0
        if reached == 0 or (not opener and self.draw.randrange(12) == 0):
            if not opener and reached == 0:
                return None
            ack = 0 if opener else (self.other_start + 1) % MOST
            return tcp(SYN if opener else SYN + ACK, self.start, ack, self.window, 0, self.told_shift)
        if opener and self.draw.randrange(12) == 0:
            return tcp(SYN, self.start, 0, self.window, 0, self.told_shift)
        end = self.total + 1 + (self.fin is not None)
        top = min(end, self.limit)
        at = self.draw.choice([self.draw.randint(1, self.sent), self.sent, self.sent])
        last = min(top, at + self.draw.choice([0, 1, 1, 2, 5, 40, 300]))
        last = max(last, at)
        fin = self.fin is not None and last == end and last > at
        self.sent = max(self.sent, last)
        ack = (self.other_start + self.draw.choice([reached, reached, self.draw.randint(1, reached)])) % MOST
        window = self.draw.choice([0, 1, 2, 10, 60, 200])
        data = [0] * (last - at - fin)
        return tcp(ACK + FIN * fin, (self.start + at) % MOST, ack, window, 0, (), data)


class Place:
    """What is between two ends: it tracks, and looks at what is dropped."""

    def __init__(self, case, starts):
        self.case = case
        self.starts = starts
        self.talk = None
        self.acked = [0, 0]
        self.words = {}

    def take(self, x, segment):
        """Return whether a segment is let by."""
        if self.talk is None:
            self.talk = begun(segment)
            return True
        word, self.talk = tracked(self.talk, x, segment)
        self.words[word, self.talk[0]] = self.words.get((word, self.talk[0]), 0) + 1
        if word in ("fits", "again"):
            if segment[5] & ACK:
                ack = (segment[4] - self.starts[1 - x]) % MOST
                self.acked[1 - x] = max(self.acked[1 - x], ack)
            return True
        last = (segment_end(segment) - self.starts[x]) % MOST
        first = (segment[3] - self.starts[x]) % MOST
        if last > first:
            self.case.assertLessEqual(last, self.acked[x], (word, x, segment, self.talk))
        return False


def carried(draw, bag):
    """Take one out of a bag, or leave it there to come again; return it, or None if it is lost."""
    at = draw.choice([0, draw.randrange(len(bag))])
    segment = bag[at] if draw.randrange(6) == 0 else bag.pop(at)
    return None if draw.randrange(8) == 0 else segment


class HonestTalks(unittest.TestCase):
    def run_talk(self, seed):
        draw = random.Random(seed)
        starts = [draw.choice([0, 5, MOST - 1, MOST - 40, draw.randrange(MOST)]) for _ in range(2)]
        ends = []
        for start in starts:
            shift, window = draw.choice([None, 0, 1, 3]), draw.choice([0, 1, 5, 100])
            ends.append(End(draw, start, draw.choice([0, 1, 30, 400]), window, shift))
        place = Place(self, starts)
        near, far = [[], []], [[], []]
        for _ in range(draw.choice([60, 400, 900])):
            x = draw.randrange(2)
            deed = draw.randrange(3)
            if deed == 0:
                segment = ends[x].make(x == 0)
                if segment is not None:
                    near[x].append(segment)
            if deed == 1 and near[x]:
                segment = carried(draw, near[x])
                if segment is not None and place.take(x, segment):
                    far[x].append(segment)
            if deed == 2 and far[x]:
                segment = carried(draw, far[x])
                if segment is not None and (ends[1 - x].other_start is not None or segment[5] & SYN):
                    ends[1 - x].take(segment)
        return place

    def test_many_rows(self):
        words = {}
        for seed in range(500):
            with self.subTest(seed):
                place = self.run_talk(seed)
                for row, many in place.words.items():
                    words[row] = words.get(row, 0) + many
        # The rows of segments come to all states, and some segments are dropped.
        for row in (("fits", "answered"), ("again", "answered"), ("fits", "open"), ("again", "open"),
                    ("fits", "closing"), ("fits", "over"), ("again", "over"), ("window", "open")):
            self.assertIn(row, words)


if __name__ == "__main__":
    unittest.main()
