"""Points 5, 6 and 7."""

import math
import unittest
from fractions import Fraction

from samples import KINDS, NO_UNITS, NOUGHT, ONE, box, goes_into, great_number, norm, product, total
from twofold.dividing import alike, common, divides, split
from twofold.errors import ByNought, FoldError

GREAT = [great_number(seed, figures) for seed in range(4) for figures in (40, 600, 900)]

# Numbers that go into one.
UNITS = {
    -2: [(1, 0), (-1, 0)],
    -1: [(1, 0), (0, 1), (-1, 0), (0, -1)],
    2: [(1, 0), (-1, 0), (1, 1), (-1, 1), (3, -2), (-7, -5), (99, 70)],
    3: [(1, 0), (-1, 0), (2, 1), (2, -1), (-7, 4), (26, 15), (-97, -56)],
}


class Divides(unittest.TestCase):
    def test_small_against_every_product(self):
        # For numbers of the small box a quotient's parts lie within 16: (2 * 2 + 3 * 2 * 2) over at least one.
        for kind in KINDS:
            for one in box(2):
                multiples = {product(kind, one, factor) for factor in box(16)}
                for two in box(2):
                    with self.subTest(kind=kind, one=one, two=two):
                        self.assertIs(divides(kind, one, two), two in multiples)
                        self.assertIs(goes_into(kind, one, two), two in multiples)

    def test_chosen(self):
        self.assertIs(divides(-2, (0, 1), (2, 0)), True)
        self.assertIs(divides(-1, (1, 1), (2, 0)), True)
        self.assertIs(divides(-1, (2, 1), (5, 0)), True)
        self.assertIs(divides(2, (3, 1), (7, 0)), True)
        self.assertIs(divides(3, (1, 1), (2, 0)), True)
        self.assertIs(divides(-1, (2, 1), (2, -1)), False)
        self.assertIs(divides(2, (3, 1), (3, -1)), False)
        self.assertIs(divides(3, (5, 0), (5, 1)), False)
        self.assertIs(divides(-2, (2, 0), (0, 1)), False)

    def test_nought(self):
        for kind in KINDS:
            self.assertIs(divides(kind, NOUGHT, NOUGHT), True)
            for number in box(4) + GREAT:
                self.assertIs(divides(kind, number, NOUGHT), True)
                if number != NOUGHT:
                    self.assertIs(divides(kind, NOUGHT, number), False)

    def test_great(self):
        for kind in KINDS:
            for one in GREAT:
                for factor in GREAT[::2]:
                    multiple = product(kind, one, factor)
                    self.assertIs(divides(kind, one, multiple), True)
                    self.assertIs(divides(kind, one, total(multiple, ONE)), False)
                    self.assertIs(divides(kind, one, total(multiple, (0, -1))), False)


class Alike(unittest.TestCase):
    def test_small(self):
        for kind in KINDS:
            for one in box(3):
                for two in box(3):
                    expected = goes_into(kind, one, two) and goes_into(kind, two, one)
                    with self.subTest(kind=kind, one=one, two=two):
                        self.assertIs(alike(kind, one, two), expected)

    def test_units_make_alike_ones(self):
        for kind in KINDS:
            for number in [NOUGHT, ONE, (5, 2), (-4, 7)] + GREAT:
                for unit in UNITS[kind]:
                    self.assertIs(alike(kind, number, product(kind, unit, number)), True)
                    self.assertIs(alike(kind, product(kind, unit, number), number), True)

    def test_a_multiple_is_not_alike(self):
        for kind in KINDS:
            for number in [ONE, (5, 2), (-4, 7)] + GREAT:
                multiple = product(kind, NO_UNITS[kind], number)
                self.assertIs(alike(kind, number, multiple), False)
                self.assertIs(alike(kind, multiple, number), False)

    def test_nought_is_alike_with_itself_alone(self):
        for kind in KINDS:
            self.assertIs(alike(kind, NOUGHT, NOUGHT), True)
            for number in [ONE, (0, 1), (-3, 2)] + GREAT:
                self.assertIs(alike(kind, NOUGHT, number), False)
                self.assertIs(alike(kind, number, NOUGHT), False)

    def test_of_one_size_yet_not_alike(self):
        for kind, number in ((-2, (1, 1)), (-1, (2, 1)), (2, (3, 1)), (3, (4, 1))):
            self.assertIs(alike(kind, number, (number[0], -number[1])), False)


class Split(unittest.TestCase):
    def test_the_example_of_the_document(self):
        self.assertEqual(split(-1, (7, 2), (2, 1)), ((3, -1), (0, 1)))

    def test_halves_go_to_the_greater_one(self):
        for kind in KINDS:
            for first, expected in ((1, 1), (-1, 0), (3, 2), (-3, -1), (5, 3), (-5, -2)):
                rest = first - 2 * expected
                self.assertEqual(split(kind, (first, 0), (2, 0)), ((expected, 0), (rest, 0)))
                self.assertEqual(split(kind, (0, first), (2, 0)), ((0, expected), (0, rest)))
                # By (-2, 0) the halves are those of the number taken from nought.
                self.assertEqual(split(kind, (-first, 0), (-2, 0)), ((expected, 0), (-rest, 0)))
                self.assertEqual(split(kind, (0, -first), (-2, 0)), ((0, expected), (0, -rest)))

    def test_great_halves(self):
        half = 10 ** 600
        for kind in KINDS:
            self.assertEqual(split(kind, (2 * half + 1, -2 * half - 1), (2, 0)), ((half + 1, -half), (-1, -1)))
            self.assertEqual(split(kind, (half, -half), (2 * half, 0)), ((1, 0), (-half, -half)))
            self.assertEqual(split(kind, (half - 1, -half - 1), (2 * half, 0)), ((0, -1), (half - 1, half - 1)))

    def test_the_whole_number_below_nought(self):
        # By (0, 1) and (2, 2) of kind 2 it is -2 and -4; by (0, 2) and (1, 1) of kind 3 it is -12 and -2.
        self.assertEqual(split(2, (1, 0), (0, 1)), ((0, 1), (-1, 0)))
        self.assertEqual(split(2, (-1, 0), (0, 1)), ((0, 0), (-1, 0)))
        self.assertEqual(split(2, (1, 0), (2, 2)), ((0, 1), (-3, -2)))
        self.assertEqual(split(2, (-1, 0), (2, 2)), ((1, 0), (-3, -2)))
        self.assertEqual(split(2, (5, 1), (0, 1)), ((1, 3), (-1, 0)))
        self.assertEqual(split(3, (0, 1), (0, 2)), ((1, 0), (0, -1)))
        self.assertEqual(split(3, (0, -1), (0, 2)), ((0, 0), (0, -1)))
        self.assertEqual(split(3, (1, 0), (1, 1)), ((0, 1), (-2, -1)))
        self.assertEqual(split(3, (-1, 0), (1, 1)), ((1, 0), (-2, -1)))

    def check(self, kind, one, two):
        quotient, rest = split(kind, one, two)
        turned = product(kind, one, (two[0], -two[1]))
        whole = norm(kind, two)
        nearest = tuple(math.floor(Fraction(part, whole) + Fraction(1, 2)) for part in turned)
        self.assertEqual(quotient, nearest)
        self.assertEqual(total(product(kind, quotient, two), rest), one)
        self.assertLess(abs(norm(kind, rest)), abs(whole))
        self.assertIs(rest == NOUGHT, goes_into(kind, two, one))

    def test_small(self):
        for kind in KINDS:
            for one in box(5):
                for two in box(4):
                    if two != NOUGHT:
                        with self.subTest(kind=kind, one=one, two=two):
                            self.check(kind, one, two)

    def test_great(self):
        numbers = [NOUGHT, ONE, (0, -1), (3, 2)] + GREAT
        for kind in KINDS:
            for one in numbers:
                for two in numbers[1:]:
                    self.check(kind, one, two)
                    self.check(kind, product(kind, one, two), two)

    def test_great_seconds_of_small_size(self):
        # Great powers of these are as near to nought as their parts are great.
        for kind, unit in ((2, (1, 1)), (3, (2, 1))):
            second = ONE
            while abs(second[0]) < 10 ** 600:
                second = product(kind, second, unit)
            for second in (second, product(kind, second, NO_UNITS[kind])):
                for first in GREAT + [ONE, (2, -1)]:
                    self.check(kind, first, second)
                    self.check(kind, first, (second[0], -second[1]))

    def test_by_nought(self):
        for kind in KINDS:
            for one in [NOUGHT, ONE, (0, 1), (-7, 2), great_number(1, 600)]:
                with self.assertRaises(ByNought) as caught:
                    split(kind, one, NOUGHT)
                self.assertIsInstance(caught.exception, FoldError)
                self.assertIsInstance(caught.exception, ValueError)

    def test_by_others_it_is_not_refused(self):
        for kind in KINDS:
            for two in ((1, 0), (0, 1), (-1, 0), (0, -1)):
                self.assertEqual(split(kind, NOUGHT, two), (NOUGHT, NOUGHT))


class Common(unittest.TestCase):
    def check(self, kind, one, two):
        found, first, second = common(kind, one, two)
        self.assertEqual(total(product(kind, first, one), product(kind, second, two)), found)
        self.assertTrue(goes_into(kind, found, one))
        self.assertTrue(goes_into(kind, found, two))
        return found

    def test_small(self):
        # What goes into a number of the small box is alike with one of the wider box.
        for kind in KINDS:
            multiples = {number: [two for two in box(3) if goes_into(kind, number, two)] for number in box(5)}
            for one in box(3):
                for two in box(3):
                    with self.subTest(kind=kind, one=one, two=two):
                        found = self.check(kind, one, two)
                        for number in box(5):
                            if one in multiples[number] and two in multiples[number]:
                                self.assertTrue(goes_into(kind, number, found))

    def test_two_noughts(self):
        for kind in KINDS:
            self.assertEqual(common(kind, NOUGHT, NOUGHT)[0], NOUGHT)
            self.check(kind, NOUGHT, NOUGHT)

    def test_one_nought(self):
        for kind in KINDS:
            for number in [ONE, (0, 1), (-5, 2), (6, 0)] + GREAT:
                for one, two in ((number, NOUGHT), (NOUGHT, number)):
                    found = self.check(kind, one, two)
                    self.assertTrue(goes_into(kind, number, found))

    def test_chosen(self):
        # The last one goes into the whole number as one of its two parts, and into the other one too.
        chosen = ((-2, (3, 0), (4, 1), (1, 1)), (-1, (5, 0), (4, 7), (2, 1)),
                  (2, (7, 0), (5, 4), (3, 1)), (3, (13, 0), (11, 6), (4, 1)))
        for kind, one, two, expected in chosen:
            found = self.check(kind, one, two)
            self.assertEqual(abs(norm(kind, found)), abs(norm(kind, expected)))
            self.assertTrue(goes_into(kind, expected, found))

    def test_great(self):
        for kind in KINDS:
            for figures in (50, 300, 450):
                shared = great_number(1, figures)
                for seed in range(2, 6):
                    one = product(kind, shared, great_number(seed, figures))
                    two = product(kind, shared, great_number(seed + 5, figures))
                    for first, second in ((one, two), (two, one), (one, shared), (shared, two), (one, one)):
                        found = self.check(kind, first, second)
                        self.assertTrue(goes_into(kind, shared, found))

    def test_great_without_a_shared_one(self):
        # A number and the next one have nothing in common but units.
        for kind in KINDS:
            for number in GREAT:
                found = self.check(kind, number, total(number, ONE))
                self.assertEqual(abs(norm(kind, found)), 1)

    def test_great_by_small(self):
        for kind in KINDS:
            for number in GREAT:
                for small in (ONE, (3, 0), (0, 6), NO_UNITS[kind], (-35, 14)):
                    first = self.check(kind, number, small)
                    second = self.check(kind, small, number)
                    self.assertTrue(goes_into(kind, first, second))
                    self.assertTrue(goes_into(kind, second, first))


if __name__ == "__main__":
    unittest.main()
