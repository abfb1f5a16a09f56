"""Points 11 and 12."""

import unittest

from samples import KINDS, NO_UNITS, NOUGHT, ONE, box, goes_into, long_units, minus, norm, product, quotient
from twofold.errors import ByNought, FoldError
from twofold.parting import parts, parts_no_further

# Sizes near a million, and somewhat beyond it for some kinds.
GREATER = [(997, 0), (31, 30), (40, 39), (999, 1), (1000, 0), (0, 577), (0, 706), (720, 0), (512, 0), (729, 0),
           (-625, 0), (0, -512), (991, 0), (0, 499), (-961, 0), (839, 0), (600, -400), (-577, 333), (990, 36), (1, 576),
           (1000, 1000), (1009, 0), (1021, 7), (1100, -3), (0, 1024), (2003, 1)]

UNITS = {
    -2: [(1, 0), (-1, 0)],
    -1: [(1, 0), (0, 1), (-1, 0), (0, -1)],
    2: [(1, 0), (-1, 0), (1, 1), (-1, 1), (3, -2), (-7, -5), (99, 70)],
    3: [(1, 0), (-1, 0), (2, 1), (2, -1), (-7, 4), (26, 15), (-97, -56)],
}


def is_prime(whole):
    if whole < 2:
        return False
    factor = 2
    while factor * factor <= whole:
        if whole % factor == 0:
            return False
        factor += 1
    return True


def whole_primes_that_stay(kind):
    """The primes up to some thousand that part no further: those by which no square leaves what the kind does."""
    stay = {}
    for prime in range(2, 1200):
        if is_prime(prime):
            stay[prime] = all((root * root - kind) % prime for root in range(prime))
    return stay


STAY = {kind: whole_primes_that_stay(kind) for kind in KINDS}


def no_further(kind, one):
    """By the size: a prime, or that of a whole prime that stays, taken with itself and going into the number."""
    whole = abs(norm(kind, one))
    if is_prime(whole):
        return True
    return any(stays and prime * prime == whole and goes_into(kind, (prime, 0), one)
               for prime, stays in STAY[kind].items())


def is_product(kind, one, factors):
    """Whether the number is the product of two that are no units, one of them being among the factors."""
    return any(goes_into(kind, factor, one) and abs(norm(kind, quotient(kind, factor, one))) != 1
               for factor in factors)


def is_alike(kind, one, two):
    return goes_into(kind, one, two) and goes_into(kind, two, one)


class PartsNoFurther(unittest.TestCase):
    def test_small_against_every_product(self):
        # The size of a number of the box is at most 12 * 12 * 3 = 432, so of two factors one has a size of at most
        # 20. By a unit it is brought to where its parts are at most 1.23 times the root of its size, so below 6.
        for kind in KINDS:
            factors = [factor for factor in box(6) if abs(norm(kind, factor)) > 1]
            for number in box(12):
                if abs(norm(kind, number)) > 1:
                    with self.subTest(kind=kind, number=number):
                        expected = not is_product(kind, number, factors)
                        self.assertIs(parts_no_further(kind, number), expected)
                        self.assertIs(no_further(kind, number), expected)

    def test_nought_and_units(self):
        for kind in KINDS:
            self.assertIs(parts_no_further(kind, NOUGHT), False)
            for unit in UNITS[kind] + long_units(kind):
                self.assertIs(parts_no_further(kind, unit), False)

    def test_two_and_three(self):
        for kind in KINDS:
            self.assertIs(parts_no_further(kind, (2, 0)), False)
        for kind, expected in ((-2, False), (-1, True), (2, True), (3, False)):
            self.assertIs(parts_no_further(kind, (3, 0)), expected)

    def test_of_prime_size(self):
        for kind, numbers in ((-2, ((0, 1), (1, 1), (3, 1), (3, -2), (-1, 3))),
                              (-1, ((1, 1), (2, 1), (-3, 2), (1, -4), (5, 2))),
                              (2, ((0, 1), (3, 1), (1, 3), (5, -1), (-1, 4))),
                              (3, ((1, 1), (0, 1), (4, -1), (1, 2), (-8, 3)))):
            for number in numbers:
                self.assertTrue(is_prime(abs(norm(kind, number))))
                self.assertIs(parts_no_further(kind, number), True)

    def test_of_a_prime_squared(self):
        for kind, stay, go in ((-2, (5, 7, 13, 997), (2, 3, 11, 17)), (-1, (3, 7, 11, 991), (2, 5, 13, 997)),
                               (2, (3, 5, 11, 997), (2, 7, 17, 991)), (3, (5, 7, 17, 991), (2, 3, 11, 13, 997))):
            for prime in stay:
                for number in ((prime, 0), (-prime, 0)):
                    self.assertIs(parts_no_further(kind, number), True)
            for prime in go:
                for number in ((prime, 0), (-prime, 0)):
                    self.assertIs(parts_no_further(kind, number), False)
            twofold = product(kind, NO_UNITS[kind], NO_UNITS[kind])
            self.assertIs(parts_no_further(kind, twofold), False)

    def test_of_other_sizes(self):
        for kind in KINDS:
            for number in ((6, 0), (10, 0), (15, 0), (30, 0), (0, 6), (4, 4), (9, 0), (27, 0), (35, 0), (1000, 0)):
                self.assertIs(parts_no_further(kind, number), False)

    def test_greater(self):
        band = [(a, b) for a in range(950, 1001, 3) for b in range(-9, 40, 4)]
        for kind in KINDS:
            answers = []
            for number in band + GREATER:
                with self.subTest(kind=kind, number=number):
                    answers.append(no_further(kind, number))
                    self.assertIs(parts_no_further(kind, number), answers[-1])
            self.assertGreater(answers.count(True), 10)
            self.assertGreater(answers.count(False), 10)

    def test_times_a_unit_it_is_the_same(self):
        for kind in KINDS:
            for number in [(2, 0), (3, 0), (5, 0), (7, 0), (11, 0), (13, 0), (6, 1), (997, 0), NO_UNITS[kind]]:
                expected = no_further(kind, number)
                for unit in UNITS[kind] + long_units(kind):
                    self.assertIs(parts_no_further(kind, product(kind, unit, number)), expected)


class Parts(unittest.TestCase):
    def check(self, kind, one):
        told = parts(kind, one)
        self.assertIs(type(told), tuple)
        unit, found = told
        self.assertIs(type(found), list)
        self.assertEqual(abs(norm(kind, unit)), 1)
        whole = unit
        for part in found:
            self.assertTrue(no_further(kind, part), part)
            self.assertIs(parts_no_further(kind, part), True)
            whole = product(kind, whole, part)
        self.assertEqual(whole, one)
        return found

    def assert_alike(self, kind, first, second):
        left = list(second)
        for one in first:
            same = [two for two in left if is_alike(kind, one, two)]
            self.assertTrue(same, one)
            left.remove(same[0])
        self.assertEqual(left, [])

    def test_small(self):
        for kind in KINDS:
            for number in box(12):
                if number != NOUGHT:
                    with self.subTest(kind=kind, number=number):
                        self.check(kind, number)

    def test_greater(self):
        for kind in KINDS:
            for number in GREATER:
                with self.subTest(kind=kind, number=number):
                    self.check(kind, number)

    def test_a_band_near_a_million(self):
        for kind in KINDS:
            for number in [(a, b) for a in range(940, 1001, 7) for b in range(-60, 60, 11)]:
                with self.subTest(kind=kind, number=number):
                    self.check(kind, number)

    def test_how_many(self):
        # Two is a unit times the same number taken twice, for each kind.
        for kind in KINDS:
            self.assertEqual(len(self.check(kind, (512, 0))), 18)
        for kind, counts in ((-2, (2, 1, 1, 2)), (-1, (1, 2, 1, 1)), (2, (1, 1, 2, 1)), (3, (2, 1, 1, 2))):
            for prime, count in zip((3, 5, 7, 11), counts):
                self.assertEqual(len(self.check(kind, (prime, 0))), count)
                self.assertEqual(len(self.check(kind, (-prime * prime, 0))), 2 * count)

    def test_both_of_two_mirrors(self):
        for kind, prime, one in ((-2, 3, (1, 1)), (-1, 5, (2, 1)), (2, 7, (3, 1)), (3, 13, (4, 1))):
            mirror = (one[0], -one[1])
            self.assertFalse(is_alike(kind, one, mirror))
            self.assert_alike(kind, self.check(kind, (prime, 0)), [one, mirror])
            self.assert_alike(kind, self.check(kind, product(kind, one, one)), [one, one])
            self.assert_alike(kind, self.check(kind, product(kind, (prime, 0), one)), [one, one, mirror])
            self.assert_alike(kind, self.check(kind, product(kind, (prime, 0), mirror)), [one, mirror, mirror])

    def test_units_have_none(self):
        for kind in KINDS:
            for unit in UNITS[kind] + long_units(kind):
                self.assertEqual(parts(kind, unit), (unit, []))

    def test_what_parts_no_further_is_alone(self):
        for kind in KINDS:
            for number in [(a, b) for a, b in box(9) if parts_no_further(kind, (a, b))]:
                found = self.check(kind, number)
                self.assert_alike(kind, found, [number])

    def test_nought(self):
        for kind in KINDS:
            with self.assertRaises(ByNought) as caught:
                parts(kind, NOUGHT)
            self.assertIsInstance(caught.exception, FoldError)
            self.assertIsInstance(caught.exception, ValueError)

    def test_alike_numbers_have_alike_lists(self):
        numbers = [(12, 0), (9, 7), (35, 0), (60, -24), (30, 30), (143, 0), (997, 0), (720, 0), (999, 1), (0, -350)]
        for kind in KINDS:
            for number in numbers:
                found = self.check(kind, number)
                for unit in UNITS[kind]:
                    self.assert_alike(kind, found, self.check(kind, product(kind, unit, number)))

    def test_a_product_has_the_parts_of_both(self):
        numbers = [ONE, minus(ONE), (0, 1), (3, 0), (5, -2), (6, 4), (7, 0), (-12, 5), (10, 10)]
        for kind in KINDS:
            for one in numbers:
                for two in numbers:
                    both = self.check(kind, one) + self.check(kind, two)
                    self.assert_alike(kind, both, self.check(kind, product(kind, one, two)))

    def test_parts_of_some_hundred_figures(self):
        for kind in KINDS:
            for number in ((2, 0), (3, 0), (35, 0), (6, 1), (720, 0), (997, 0), (31, 30), (999, 1)):
                found = self.check(kind, number)
                for unit in long_units(kind):
                    self.assert_alike(kind, found, self.check(kind, product(kind, unit, number)))


if __name__ == "__main__":
    unittest.main()
