"""Points 100 and 101: octets and moved sums."""

import random
import unittest

from onepolicy.octets import folded, four, moved_sum, number_of, sum_number, two
from samples import calm, folded_by_carries


def pairs_of(octets):
    octets = list(octets) + [0] * (len(octets) % 2)
    return [256 * octets[at] + octets[at + 1] for at in range(0, len(octets), 2)]


class Octets(unittest.TestCase):
    def test_told_lists(self):
        for octets, due in (
            ([], 0), ([0], 0), ([0, 0], 0), ([0] * 7, 0), ([1], 256), ([0, 1], 1), ([1, 2], 258), ([255, 255], 65535),
            ([255, 255, 0, 1], 1), ([255, 254, 0, 1], 65535), ([255, 255, 255, 255], 65535), ([1, 2, 3], 258 + 768),
            ([255, 255, 255], 65280), ([0, 0, 0, 0, 255], 65280), ([128, 0, 128, 0], 1), ([0, 255, 255, 0], 65535),
        ):
            with self.subTest(octets):
                self.assertEqual(calm(self, folded, octets), due)
                self.assertEqual(calm(self, sum_number, octets), 65535 - due)

    def test_a_known_header(self):
        header = [0x45, 0, 0, 0x73, 0, 0, 0x40, 0, 0x40, 0x11, 0, 0, 0xC0, 0xA8, 0, 1, 0xC0, 0xA8, 0, 0xC7]
        self.assertEqual(sum_number(header), 0xB861)

    def test_the_words_of_the_point(self):
        draw = random.Random(100)
        for length in range(60):
            octets = [draw.choice([0, 255, draw.randrange(256)]) for _ in range(length)]
            total = sum(pairs_of(octets))
            due = 0 if total == 0 else (total - 1) % 65535 + 1
            self.assertEqual(folded(octets), due)
            self.assertEqual(folded(octets), folded_by_carries(octets))

    def test_long_lists(self):
        for length in (1500, 1501, 65537):
            self.assertEqual(folded([255] * length), folded_by_carries([255] * length))

    def test_numbers_of_two_or_four_octets(self):
        for number, octets in ((0, [0, 0]), (1, [0, 1]), (255, [0, 255]), (256, [1, 0]), (0x0203, [2, 3]),
                               (65535, [255, 255])):
            self.assertEqual(two(number), octets)
            self.assertEqual(number_of(octets), number)
        for number, octets in ((0, [0, 0, 0, 0]), (65535, [0, 0, 255, 255]), (65536, [0, 1, 0, 0]),
                               (0x01020304, [1, 2, 3, 4]), (2 ** 32 - 1, [255] * 4)):
            self.assertEqual(four(number), octets)
            self.assertEqual(calm(self, number_of, octets), number)

    def test_what_is_returned_is_an_integer(self):
        self.assertIs(type(folded([])), int)
        self.assertIs(type(moved_sum(1, [], [])), int)


class MovedSums(unittest.TestCase):
    def test_told_sums(self):
        for number, olds, news, due in (
            (0, [], [], 0), (65535, [], [], 0), (1, [], [], 1), (65534, [], [], 65534),
            (5, [3], [3], 5), (5, [3], [4], 4), (5, [4], [3], 6), (1, [0], [1], 0), (65535, [0], [1], 65534),
            (0, [1], [0], 1), (0, [0], [1], 65534), (0, [0], [65535], 0), (7, [65535], [0], 7),
            (10, [1, 2, 3], [4], 12), (10, [], [9, 1], 0), (10, [], [9, 2], 65534), (10, [65535] * 9, [65535] * 5, 10),
        ):
            with self.subTest((number, olds, news)):
                self.assertEqual(calm(self, moved_sum, number, olds, news), due)

    def test_the_words_of_the_point(self):
        draw = random.Random(101)
        for _ in range(2000):
            number = draw.choice([0, 1, 65534, 65535, draw.randrange(65536)])
            olds = [draw.choice([0, 65535, draw.randrange(65536)]) for _ in range(draw.randrange(5))]
            news = [draw.choice([0, 65535, draw.randrange(65536)]) for _ in range(draw.randrange(5))]
            rest = (65535 - number - sum(olds) + sum(news)) % 65535
            self.assertEqual(moved_sum(number, olds, news), 0 if rest == 0 else 65535 - rest)

    def test_it_is_the_sum_number_of_what_stands_then(self):
        draw = random.Random(102)
        for _ in range(500):
            before = [draw.choice([0, 255, draw.randrange(256)]) for _ in range(8)]
            after = before[:2] + [draw.choice([0, 255, draw.randrange(256)]) for _ in range(4)] + before[6:]
            if any(before) and any(after):
                found = moved_sum(sum_number(before), pairs_of(before[2:6]), pairs_of(after[2:6]))
                self.assertEqual(found, sum_number(after))


if __name__ == "__main__":
    unittest.main()
