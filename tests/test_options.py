"""Point 124: the shift of options."""

import unittest

from onepolicy.options import shift_of
from samples import calm


class Shifts(unittest.TestCase):
    def test_told_options(self):
        for options, due in (
            ((), None), ((3, 3, 7), 7), ((3, 3, 7, 0), 7), ((3, 3, 0, 0), 0), ((1, 3, 3, 7), 7), ((1, 1, 1, 1), None),
            ((0, 3, 3, 7), None), ((1, 0, 3, 3, 7, 0), None), ((2, 4, 5, 220, 3, 3, 9, 1), 9), ((3, 3, 5, 3, 3, 6, 1, 1), 5),
            ((2, 4, 3, 3, 7, 0, 0, 0), None), ((8, 10, 0, 0, 0, 0, 0, 0, 0, 0, 3, 3, 2, 1), 2), ((8, 2, 3, 3, 4, 1), 4),
            ((0, 0, 0, 0), None), ((0, 2, 3, 3, 7, 0), None), ((1, 0, 3, 9, 3, 3, 7), None), ((3, 3, 0), 0),
            ((4, 2, 1, 3, 3, 14), 14), ((255, 2, 3, 3, 1), 1), ((5, 3, 0, 3, 3, 1), 1),
        ):
            with self.subTest(options):
                self.assertEqual(calm(self, shift_of, options), due)

    def test_every_shift(self):
        for shift in range(256):
            self.assertEqual(shift_of((1, 3, 3, shift)), min(shift, 14))

    def test_wrong_lengths_end_them(self):
        for options in (
            (2, 0, 3, 3, 7, 0), (2, 1, 3, 3, 7, 0), (3, 0, 7, 3, 3, 7), (3, 1, 3, 3, 7, 0), (2, 8, 3, 3, 7, 0, 0),
            (2, 255, 3, 3, 7, 0), (3, 3), (3,), (1, 1, 1, 3), (1, 1, 3, 3), (1, 3, 4, 7), (2,), (8, 10, 3, 3, 7, 0),
            (1, 2, 5, 3), (3, 4, 7),
        ):
            with self.subTest(options):
                self.assertIsNone(calm(self, shift_of, options))

    def test_a_length_up_to_the_very_end(self):
        self.assertEqual(shift_of((1, 1, 3, 3, 6)), 6)
        self.assertIsNone(shift_of((2, 6, 3, 3, 6, 0)))
        self.assertIsNone(shift_of((2, 5, 3, 3, 6)))

    def test_other_lengths_of_the_kind_3(self):
        self.assertIsNone(shift_of((3, 4, 7, 0)))
        self.assertIsNone(shift_of((3, 2, 7, 0)))
        self.assertEqual(shift_of((3, 2, 3, 3, 5, 0)), 5)
        self.assertEqual(shift_of((3, 4, 7, 9, 3, 3, 5, 0)), 5)

    def test_other_kinds_with_the_length_3(self):
        for kind in range(256):
            if kind not in (0, 1, 3):
                self.assertIsNone(shift_of((kind, 3, 7, 0)))
                self.assertEqual(shift_of((kind, 3, 7, 3, 3, 8, 1, 1)), 8)

    def test_forty_octets(self):
        self.assertEqual(shift_of((1,) * 37 + (3, 3, 12)), 12)
        self.assertEqual(shift_of((2, 37) + (3,) * 35 + (3, 3, 12)), 12)
        self.assertIsNone(shift_of((2, 40) + (3,) * 38))
        self.assertIsNone(shift_of((1,) * 38 + (3, 3)))
        self.assertIsNone(shift_of((1,) * 39 + (3,)))
        self.assertIsNone(shift_of((1,) * 40))


if __name__ == "__main__":
    unittest.main()
