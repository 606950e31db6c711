"""Points 300 and 310: points, fields and boxes."""

import random
import unittest

from onepolicy.boxes import GREATEST, has_point, is_number, least_point, parted, whole_box
from samples import calm
from table_samples import box, points, random_box


class Boxes(unittest.TestCase):
    def test_greatest_numbers(self):
        self.assertEqual(GREATEST, (1, 255, 4294967295, 65535, 4294967295, 65535))
        self.assertIs(type(GREATEST), tuple)

    def test_is_number(self):
        for value in (0, 1, -1, 2 ** 40, -2 ** 40):
            self.assertIs(calm(self, is_number, value), True)
        for value in (True, False, None, "1", "", 1.0, (), (1,), [1], {1: 1}, b"1"):
            self.assertIs(calm(self, is_number, value), False)

    def test_whole_box(self):
        self.assertEqual(whole_box(), ((0, 1), (0, 255), (0, 4294967295), (0, 65535), (0, 4294967295), (0, 65535)))
        self.assertEqual({type(part) for part in whole_box()} | {type(whole_box())}, {tuple})

    def test_has_point(self):
        value = box(f0=(1, 1), f1=(6, 17), f2=(100, 200), f3=(0, 0), f4=(5, 4294967295), f5=(80, 81))
        least, greatest = (1, 6, 100, 0, 5, 80), (1, 17, 200, 0, 4294967295, 81)
        for point in (least, greatest, (1, 10, 150, 0, 77, 80)):
            self.assertIs(calm(self, has_point, value, point), True)
        for field in range(6):
            for point, step in ((least, -1), (greatest, 1)):
                point = point[:field] + (point[field] + step,) + point[field + 1:]
                self.assertIs(calm(self, has_point, value, point), False, point)
        self.assertTrue(has_point(whole_box(), (0,) * 6))
        self.assertTrue(has_point(whole_box(), GREATEST))

    def test_least_point(self):
        self.assertEqual(calm(self, least_point, whole_box()), (0, 0, 0, 0, 0, 0))
        self.assertEqual(calm(self, least_point, box(f1=(6, 17), f5=(80, 80))), (0, 6, 0, 0, 0, 80))
        for seed in range(20):
            value = random_box(random.Random(seed))
            self.assertEqual(least_point(value), min(points(value)))

    def test_parted(self):
        value = box(f1=(6, 17))
        self.assertEqual(calm(self, parted, value, 1, 7), (box(f1=(6, 6)), box(f1=(7, 17))))
        self.assertEqual(calm(self, parted, value, 1, 17), (box(f1=(6, 16)), box(f1=(17, 17))))
        self.assertEqual(parted(value, 5, 65535), (box(f1=(6, 17), f5=(0, 65534)), box(f1=(6, 17), f5=(65535, 65535))))
        self.assertIs(type(parted(value, 1, 7)), tuple)

    def test_parts_have_all_points_once(self):
        draw = random.Random(310)
        for _ in range(60):
            value, field = random_box(draw), draw.randrange(6)
            low, high = value[field]
            for number in range(low + 1, high + 1):
                below, others = parted(value, field, number)
                for point in points(value):
                    self.assertEqual((has_point(below, point), has_point(others, point)),
                                     (point[field] < number, point[field] >= number))


if __name__ == "__main__":
    unittest.main()
