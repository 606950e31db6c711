"""Point 102: addresses."""

import random
import unittest

from onepolicy.addresses import in_prefix, is_plain, parse_address, show_address
from samples import MOST, calm


class Plain(unittest.TestCase):
    def test_every_first_octet(self):
        for first in range(256):
            due = 1 <= first <= 223 and first != 127
            for rest in (0, 1, 0x123456, 0xFFFFFF):
                with self.subTest((first, rest)):
                    self.assertIs(is_plain(first * 2 ** 24 + rest), due)


class Texts(unittest.TestCase):
    def test_told_texts(self):
        for address, text in (
            (0, "0.0.0.0"), (MOST - 1, "255.255.255.255"), (0x01020304, "1.2.3.4"), (0x0A00010A, "10.0.1.10"),
            (0x7F000001, "127.0.0.1"), (0xC0A80164, "192.168.1.100"), (0x00090A63, "0.9.10.99"), (255, "0.0.0.255"),
        ):
            with self.subTest(text):
                self.assertEqual(show_address(address), text)
                self.assertEqual(parse_address(text), address)

    def test_there_and_back(self):
        draw = random.Random(1)
        for _ in range(500):
            address = draw.randrange(MOST)
            self.assertEqual(parse_address(show_address(address)), address)

    def test_every_octet_at_every_place(self):
        for place in range(4):
            for octet in range(256):
                words = ["7"] * 4
                words[place] = str(octet)
                found = parse_address(".".join(words))
                self.assertEqual(found >> (24 - 8 * place) & 255, octet)

    def test_other_texts_are_none(self):
        for text in (
            "", ".", "...", "1.2.3", "1.2.3.4.5", "1.2.3.", ".1.2.3", "1..2.3", "1.2.3.4.", ".1.2.3.4", "1.2.3.256",
            "256.2.3.4", "1.2.3.999", "01.2.3.4", "1.2.3.04", "1.2.3.00", "00.0.0.0", "000.0.0.0", "1.2.3.-4",
            "1.2.3.+4", "1.2.3. 4", " 1.2.3.4", "1.2.3.4 ", "1.2.3.4\n", "1.2.3.4\x00", "1.2.3.a", "a.b.c.d",
            "1,2,3,4", "1.2.3.0x4", "1.2.3.1_0", "1.2.3.1e1", "1.2.3.\u0664", "1.2.3.\u00b2", "\uff11.2.3.4", "16909060",
            "1.2.3.1000", "1.2.3." + "9" * 5000, "1.2.3." + "0" * 5000, "1.2.3.4/32", "-1.2.3.4", "1.2.3.-0", "1:2:3:4",
        ):
            with self.subTest(text[:30]):
                self.assertIsNone(parse_address(text))


class Prefixes(unittest.TestCase):
    def test_every_length_at_its_bounds(self):
        draw = random.Random(2)
        for length in range(1, 33):
            many = 2 ** (32 - length)
            for _ in range(20):
                start = draw.randrange(2 ** length) * many
                prefix = (start, length)
                inner = draw.randrange(start, start + many)
                for address in (start, start + many - 1, inner):
                    self.assertIs(calm(self, in_prefix, prefix, address), True)
                for address in (start - 1, start + many):
                    if 0 <= address < MOST:
                        self.assertIs(in_prefix(prefix, address), False)
                for bit in range(32):
                    self.assertIs(in_prefix(prefix, inner ^ 2 ** bit), bit < 32 - length)

    def test_the_greatest_and_the_least_addresses(self):
        self.assertTrue(in_prefix((2 ** 31, 1), MOST - 1))
        self.assertFalse(in_prefix((2 ** 31, 1), 2 ** 31 - 1))
        self.assertTrue(in_prefix((0, 1), 0))
        self.assertTrue(in_prefix((MOST - 1, 32), MOST - 1))
        self.assertFalse(in_prefix((MOST - 1, 32), MOST - 2))

    def test_lengths_beyond_raise_nothing(self):
        for length in (-1, 0, 33, 40):
            self.assertIn(in_prefix((0, length), 5), (True, False))


if __name__ == "__main__":
    unittest.main()
