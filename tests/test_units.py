"""Points 8, 9 and 10."""

import unittest

from samples import (BACK, BASIC, KINDS, NO_UNITS, NOUGHT, ONE, box, goes_into, great_number, long_units, minus, norm,
                     product, total, unit_row)
from twofold.errors import FoldError, NoUnit
from twofold.units import is_unit, told_unit, turned, unit_of

# So many different units the basic one gives, where they come round again.
ROUND = {-2: 2, -1: 4}


def no_units(kind):
    """Nought, small numbers, great ones, and great ones next to units."""
    small = [number for number in box(8) if not goes_into(kind, number, ONE)]
    great = [great_number(seed, figures) for seed in range(4) for figures in (40, 600, 700)]
    for unit in long_units(kind):
        great += [product(kind, unit, NO_UNITS[kind]), product(kind, unit, (2, 0)), product(kind, unit, (0, 5))]
        great += [number for number in (total(unit, ONE), total(unit, (0, -1))) if abs(norm(kind, number)) != 1]
    return small + great


class Refused(unittest.TestCase):
    def assert_no_unit(self, function, kind, one):
        with self.assertRaises(NoUnit) as caught:
            function(kind, one)
        self.assertIsInstance(caught.exception, FoldError)
        self.assertIsInstance(caught.exception, ValueError)

    def test_what_is_no_unit(self):
        for kind in KINDS:
            for number in no_units(kind):
                self.assert_no_unit(turned, kind, number)
                self.assert_no_unit(told_unit, kind, number)

    def test_nought_and_sizes_next_to_one(self):
        for kind, number in ((-2, (0, 1)), (-1, (1, 1)), (2, (2, 1)), (3, (1, 1))):
            self.assertEqual(abs(norm(kind, number)), 2)
            for number in (number, minus(number), NOUGHT):
                self.assert_no_unit(turned, kind, number)
                self.assert_no_unit(told_unit, kind, number)


class IsUnit(unittest.TestCase):
    def test_small(self):
        for kind in KINDS:
            for number in box(20):
                with self.subTest(kind=kind, number=number):
                    self.assertIs(is_unit(kind, number), goes_into(kind, number, ONE))

    def test_the_same_number_by_different_kinds(self):
        for number, kinds in (((1, 0), KINDS), ((-1, 0), KINDS), ((0, 1), (-1,)), ((0, -1), (-1,)), ((1, 1), (2,)),
                              ((-1, 1), (2,)), ((2, 1), (3,)), ((2, -1), (3,)), ((3, 2), (2,)), ((0, 0), ())):
            for kind in KINDS:
                self.assertIs(is_unit(kind, number), kind in kinds)

    def test_great(self):
        for kind in KINDS:
            for unit in long_units(kind):
                self.assertIs(is_unit(kind, unit), True)
            for number in no_units(kind):
                self.assertIs(is_unit(kind, number), False)

    def test_where_the_size_with_its_sign_is_minus_one(self):
        for number in ((1, 1), (7, 5), (-41, 29), (239, -169)) + tuple(unit_row(2, (1, 1), 1501)[1::150]):
            self.assertEqual(norm(2, number), -1)
            self.assertIs(is_unit(2, number), True)
            self.assertEqual(product(2, number, turned(2, number)), ONE)


class Turned(unittest.TestCase):
    def test_small(self):
        self.assertEqual(turned(-2, (-1, 0)), (-1, 0))
        self.assertEqual(turned(-1, (0, 1)), (0, -1))
        self.assertEqual(turned(2, (1, 1)), (-1, 1))
        self.assertEqual(turned(2, (3, 2)), (3, -2))
        self.assertEqual(turned(3, (2, 1)), (2, -1))
        self.assertEqual(turned(3, (-7, 4)), (-7, -4))
        for kind in KINDS:
            self.assertEqual(turned(kind, (1, 0)), (1, 0))
            self.assertEqual(turned(kind, (-1, 0)), (-1, 0))

    def test_times_its_turned_one_a_unit_is_one(self):
        for kind in KINDS:
            for unit in [number for number in box(100) if abs(norm(kind, number)) == 1] + long_units(kind):
                self.assertEqual(product(kind, unit, turned(kind, unit)), ONE)
                self.assertEqual(turned(kind, turned(kind, unit)), unit)


class UnitOf(unittest.TestCase):
    def test_none_and_once(self):
        for kind in KINDS:
            for sign in (1, -1):
                self.assertEqual(unit_of(kind, sign, 0), (sign, 0))
            self.assertEqual(unit_of(kind, 1, 1), BASIC[kind])
            self.assertEqual(unit_of(kind, -1, 1), minus(BASIC[kind]))
            self.assertEqual(unit_of(kind, 1, -1), BACK[kind])
            self.assertEqual(unit_of(kind, -1, -1), minus(BACK[kind]))

    def test_chosen(self):
        for times, expected in ((2, (3, 2)), (3, (7, 5)), (4, (17, 12)), (-2, (3, -2)), (-3, (-7, 5)), (-4, (17, -12))):
            self.assertEqual(unit_of(2, 1, times), expected)
        for times, expected in ((2, (7, 4)), (3, (26, 15)), (-2, (7, -4)), (-3, (26, -15))):
            self.assertEqual(unit_of(3, 1, times), expected)
        for times, expected in ((2, (-1, 0)), (3, (0, -1)), (4, (1, 0)), (5, (0, 1)), (-2, (-1, 0)), (-3, (0, 1))):
            self.assertEqual(unit_of(-1, 1, times), expected)
        for times, expected in ((2, (1, 0)), (3, (-1, 0)), (-2, (1, 0)), (-3, (-1, 0))):
            self.assertEqual(unit_of(-2, 1, times), expected)

    def test_every_times(self):
        for kind in KINDS:
            upward = unit_row(kind, BASIC[kind], 1300)
            downward = unit_row(kind, BACK[kind], 1300)
            for times in list(range(21)) + list(range(21, 990, 31)) + list(range(990, 1011)) + [1024, 1299, 1300]:
                with self.subTest(kind=kind, times=times):
                    self.assertEqual(unit_of(kind, 1, times), upward[times])
                    self.assertEqual(unit_of(kind, -1, times), minus(upward[times]))
                    self.assertEqual(unit_of(kind, 1, -times), downward[times])
                    self.assertEqual(unit_of(kind, -1, -times), minus(downward[times]))


class ToldUnit(unittest.TestCase):
    TIMES = list(range(-20, 21)) + [sign * times for sign in (1, -1) for times in (63, 500, 999, 1000, 1001, 1300)]

    def test_the_pair_again(self):
        for kind in (2, 3):
            for times in self.TIMES:
                for sign in (1, -1):
                    with self.subTest(kind=kind, sign=sign, times=times):
                        self.assertEqual(told_unit(kind, unit_of(kind, sign, times)), (sign, times))

    def test_where_units_come_round_again(self):
        for kind in (-1, -2):
            for times in self.TIMES:
                for sign in (1, -1):
                    # Taken from nought, a unit is the one that lies half a round further.
                    expected = times if sign == 1 else times + ROUND[kind] // 2
                    with self.subTest(kind=kind, sign=sign, times=times):
                        told = told_unit(kind, unit_of(kind, sign, times))
                        self.assertEqual(told, (1, expected % ROUND[kind]))

    def test_all_units_of_the_small_kinds(self):
        for times, unit in enumerate(((1, 0), (0, 1), (-1, 0), (0, -1))):
            self.assertEqual(told_unit(-1, unit), (1, times))
        for times, unit in enumerate(((1, 0), (-1, 0))):
            self.assertEqual(told_unit(-2, unit), (1, times))

    def test_small_against_every_pair(self):
        for kind in (2, 3):
            pairs = {}
            for times, (up, down) in enumerate(zip(unit_row(kind, BASIC[kind], 9), unit_row(kind, BACK[kind], 9))):
                for sign, told in ((1, tuple), (-1, minus)):
                    pairs[told(up)] = (sign, times)
                    pairs[told(down)] = (sign, -times)
            for number in box(60):
                if abs(norm(kind, number)) == 1:
                    with self.subTest(kind=kind, number=number):
                        self.assertEqual(told_unit(kind, number), pairs[number])

    def test_units_of_some_hundred_figures(self):
        for kind in (2, 3):
            for factor, way in ((BASIC[kind], 1), (BACK[kind], -1)):
                row = unit_row(kind, factor, 1700)
                for times in (300, 301, 1000, 1500, 1567, 1568, 1700):
                    self.assertEqual(told_unit(kind, row[times]), (1, way * times))
                    self.assertEqual(told_unit(kind, minus(row[times])), (-1, way * times))

    def test_told_units_are_made_again(self):
        for kind in KINDS:
            for unit in long_units(kind):
                sign, times = told_unit(kind, unit)
                self.assertEqual(unit_of(kind, sign, times), unit)


if __name__ == "__main__":
    unittest.main()
