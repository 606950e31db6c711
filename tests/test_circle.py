"""Point 123: numbers that go around."""

import random
import unittest

from onepolicy.circle import later, later_one, lies
from samples import MOST

HALF = 2 ** 31
STARTS = (0, 1, 2, 1000, HALF - 1, HALF, HALF + 1, MOST - 2, MOST - 1)


class Circle(unittest.TestCase):
    def test_later_at_every_bound(self):
        for start in STARTS:
            for step in (0, 1, 2, HALF - 2, HALF - 1, HALF, HALF + 1, MOST - 2, MOST - 1):
                due = 0 < step < HALF
                other = (start + step) % MOST
                with self.subTest((start, step)):
                    self.assertIs(later(other, start), due)
                    self.assertEqual(later_one(other, start), other if due else start)

    def test_half_a_circle_apart_the_second_one_is_told(self):
        self.assertEqual(later_one(0, HALF), HALF)
        self.assertEqual(later_one(HALF, 0), 0)
        self.assertFalse(later(0, HALF))
        self.assertFalse(later(HALF, 0))

    def test_told_numbers(self):
        self.assertTrue(later(0, MOST - 1))
        self.assertFalse(later(MOST - 1, 0))
        self.assertEqual(later_one(5, MOST - 5), 5)
        self.assertEqual(later_one(MOST - 5, 5), 5)

    def test_lies_at_every_bound(self):
        for first in STARTS:
            for width in (0, 1, 2, 1000, HALF, MOST - 2, MOST - 1):
                last = (first + width) % MOST
                for step in (0, 1, width - 1, width, width + 1, HALF, MOST - 1):
                    number = (first + step) % MOST
                    due = step % MOST <= width
                    with self.subTest((first, width, step)):
                        self.assertIs(lies(number, first, last), due)

    def test_lies_over_the_end(self):
        for number, due in ((MOST - 3, False), (MOST - 2, True), (MOST - 1, True), (0, True), (3, True), (4, False)):
            self.assertIs(lies(number, MOST - 2, 3), due)

    def test_sides_that_are_turned(self):
        # From 3 to 2 lies every number.
        draw = random.Random(123)
        for _ in range(100):
            self.assertTrue(lies(draw.randrange(MOST), 3, 2))


if __name__ == "__main__":
    unittest.main()
