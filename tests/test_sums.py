"""Points 3 and 4."""

import unittest

from samples import KINDS, NOUGHT, ONE, box, great, great_number
from twofold.sums import added, multiplied, size

GREAT = [great_number(seed, figures) for seed in range(4) for figures in (40, 600, 900)]


class Sums(unittest.TestCase):
    def test_small(self):
        for kind in KINDS:
            self.assertEqual(added(kind, (3, 2), (10, 20)), (13, 22))
            self.assertEqual(added(kind, (3, 2), (-5, -7)), (-2, -5))
            self.assertEqual(added(kind, (-3, 2), (3, -2)), NOUGHT)
            self.assertEqual(added(kind, NOUGHT, (4, -9)), (4, -9))

    def test_great(self):
        for kind in KINDS:
            for a, b in GREAT:
                for c, d in GREAT:
                    self.assertEqual(added(kind, (a, b), (c, d)), (a + c, b + d))


class Products(unittest.TestCase):
    def test_small(self):
        # (3 + 2w)(5 - 7w) = 15 - 14ww + (10 - 21)w
        for kind, expected in ((-2, (43, -11)), (-1, (29, -11)), (2, (-13, -11)), (3, (-27, -11))):
            self.assertEqual(multiplied(kind, (3, 2), (5, -7)), expected)
            self.assertEqual(multiplied(kind, (5, -7), (3, 2)), expected)
            self.assertEqual(multiplied(kind, (-3, -2), (-5, 7)), expected)

    def test_the_second_part_counts_a_root_of_the_kind(self):
        for kind in KINDS:
            self.assertEqual(multiplied(kind, (0, 1), (0, 1)), (kind, 0))

    def test_nought_and_one(self):
        for kind in KINDS:
            for number in box(3) + GREAT:
                self.assertEqual(multiplied(kind, number, NOUGHT), NOUGHT)
                self.assertEqual(multiplied(kind, NOUGHT, number), NOUGHT)
                self.assertEqual(multiplied(kind, number, ONE), number)
                self.assertEqual(multiplied(kind, ONE, number), number)

    def test_great(self):
        for kind in KINDS:
            for a, b in GREAT:
                for c, d in GREAT:
                    expected = (a * c + kind * b * d, a * d + b * c)
                    self.assertEqual(multiplied(kind, (a, b), (c, d)), expected)


class Sizes(unittest.TestCase):
    def test_small(self):
        for kind, expected in ((-2, 17), (-1, 13), (2, 1), (3, 3)):
            for number in ((3, 2), (-3, 2), (3, -2), (-3, -2)):
                self.assertEqual(size(kind, number), expected)

    def test_without_its_sign(self):
        self.assertEqual(size(2, (1, 1)), 1)
        self.assertEqual(size(2, (0, -5)), 50)
        self.assertEqual(size(3, (1, 1)), 2)
        self.assertEqual(size(3, (0, 4)), 48)

    def test_great(self):
        first, second = great(1, 600), great(2, 600)
        for kind in KINDS:
            for number in ((first, second), (-first, second), (second, -first), (-second, -first)):
                a, b = number
                self.assertEqual(size(kind, number), abs(a * a - kind * b * b))

    def test_nought_for_nought_alone(self):
        for kind in KINDS:
            self.assertEqual(size(kind, NOUGHT), 0)
            for number in box(12) + GREAT:
                if number != NOUGHT:
                    self.assertGreater(size(kind, number), 0)

    def test_near_a_root_of_the_kind(self):
        # Powers of (1, 1) and (2, 1) come as near to nought as great numbers can, yet have size one.
        for kind, unit in ((2, (1, 1)), (3, (2, 1))):
            number = ONE
            for _ in range(1600):
                number = multiplied(kind, number, unit)
                self.assertEqual(size(kind, number), 1)
            self.assertGreater(number[1], 10 ** 600)

    def test_the_size_of_a_product(self):
        numbers = box(3) + GREAT
        for kind in KINDS:
            for one in numbers:
                for two in numbers:
                    self.assertEqual(size(kind, multiplied(kind, one, two)), size(kind, one) * size(kind, two))


if __name__ == "__main__":
    unittest.main()
