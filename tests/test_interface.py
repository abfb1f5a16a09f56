"""Points 1 and 2, and the interface: what holds for every function alike."""

import ast
import inspect
import pathlib
import unittest

from samples import BASIC, KINDS, NO_KINDS, NO_UNITS, NOUGHT, ONE, great_number, long_units, product
from twofold.dividing import alike, common, divides, split
from twofold.errors import BadKind, ByNought, FoldError, NoUnit
from twofold.notes import read, shown
from twofold.parting import parts, parts_no_further
from twofold.sums import added, multiplied, size
from twofold.units import is_unit, told_unit, turned, unit_of

OF_TWO = (added, multiplied, split, divides, alike, common)
OF_ONE = (size, is_unit, turned, told_unit, parts, parts_no_further)
PACKAGE = pathlib.Path(__file__).resolve().parent.parent / "twofold"


class Arguments(unittest.TestCase):
    def assert_arguments(self, function, names):
        with self.subTest(function.__name__):
            self.assertEqual(list(inspect.signature(function).parameters), names)

    def test_names_and_order(self):
        for function in OF_TWO:
            self.assert_arguments(function, ["kind", "one", "two"])
        for function in OF_ONE:
            self.assert_arguments(function, ["kind", "one"])
        self.assert_arguments(unit_of, ["kind", "sign", "times"])
        self.assert_arguments(shown, ["one"])
        self.assert_arguments(read, ["line"])


class Kinds(unittest.TestCase):
    def test_the_four_kinds_are_taken(self):
        for kind in KINDS:
            for function in OF_TWO:
                function(kind, (3, 2), (1, 1))
            for function in OF_ONE:
                function(kind, BASIC[kind])
            unit_of(kind, 1, 2)

    def assert_refused(self, function, *values):
        with self.assertRaises(BadKind) as caught:
            function(*values)
        self.assertIsInstance(caught.exception, FoldError)
        self.assertIsInstance(caught.exception, ValueError)
        self.assertNotIsInstance(caught.exception, (ByNought, NoUnit))

    def test_every_other_kind_is_refused(self):
        for place, kind in enumerate(NO_KINDS):
            for function in OF_TWO:
                for one, two in (((3, 2), (1, 1)), (NOUGHT, ONE), (ONE, NOUGHT), (NOUGHT, NOUGHT)):
                    with self.subTest(function.__name__, place=place, one=one, two=two):
                        self.assert_refused(function, kind, one, two)
            for function in OF_ONE:
                for one in (ONE, (-1, 0), (0, 1), (1, 1), (2, 1), (3, 2), (5, 0), (2, 0), (0, 0), (997, 0)):
                    with self.subTest(function.__name__, place=place, one=one):
                        self.assert_refused(function, kind, one)
            for sign in (1, -1):
                for times in (0, 1, -1, 2, 1000, -1000):
                    with self.subTest("unit_of", place=place, sign=sign, times=times):
                        self.assert_refused(unit_of, kind, sign, times)

    def test_bad_kind_goes_ahead_of_other_refusals(self):
        for kind in NO_KINDS:
            self.assert_refused(split, kind, (3, 2), NOUGHT)
            self.assert_refused(parts, kind, NOUGHT)
            for function in (turned, told_unit):
                for one in (NOUGHT, (5, 0), (3, 1), great_number(1, 600)):
                    self.assert_refused(function, kind, one)


class HandedIn(unittest.TestCase):
    def pairs(self):
        return [((7, 2), (2, 1)), (NOUGHT, (2, 1)), ((7, 2), (-7, -2)),
                (great_number(1, 600), great_number(2, 600)),
                (great_number(3, 900), great_number(4, 850))]

    def calls(self, kind):
        for one, two in self.pairs():
            for function in OF_TWO:
                yield function, (kind, one, two)
            for function in (size, is_unit):
                yield function, (kind, one)
            yield shown, (one,)
        for unit in [BASIC[kind]] + long_units(kind):
            for function in OF_ONE:
                yield function, (kind, unit)
            for function in (parts, parts_no_further):
                yield function, (kind, product(kind, unit, (30, -6)))
        for times in (0, 7, -1000):
            yield unit_of, (kind, -1, times)
        yield read, ("-12+5w",)

    def test_it_is_unchanged(self):
        for kind in KINDS:
            for function, values in self.calls(kind):
                before = [tuple(value) if isinstance(value, tuple) else value for value in values]
                function(*values)
                self.assertEqual(list(values), before)

    def test_asked_again_the_answer_is_the_same(self):
        for kind in KINDS:
            for function, values in self.calls(kind):
                self.assertEqual(function(*values), function(*values))

    def test_a_list_that_came_back_is_the_callers_own(self):
        for kind in KINDS:
            for number in (ONE, (30, 0)):
                unit, found = parts(kind, number)
                before = list(found)
                found.append("something else")
                self.assertEqual(parts(kind, number), (unit, before))


class ComingBack(unittest.TestCase):
    def assert_number(self, value):
        self.assertIs(type(value), tuple)
        self.assertEqual([type(part) for part in value], [int, int])

    def assert_numbers(self, value, count):
        self.assertIs(type(value), tuple)
        self.assertEqual(len(value), count)
        for number in value:
            self.assert_number(number)

    def test_sums_and_dividing(self):
        samples = [(7, 2), (2, 1), (-2, -1), ONE, (0, -3), great_number(1, 600)]
        for kind in KINDS:
            for one in samples + [NOUGHT]:
                self.assertIs(type(size(kind, one)), int)
                for two in samples:
                    self.assert_numbers(split(kind, one, two), 2)
                for two in samples + [NOUGHT]:
                    self.assert_number(added(kind, one, two))
                    self.assert_number(multiplied(kind, one, two))
                    self.assertIs(type(divides(kind, one, two)), bool)
                    self.assertIs(type(alike(kind, one, two)), bool)
                    self.assert_numbers(common(kind, one, two), 3)

    def test_units(self):
        for kind in KINDS:
            for one in [NOUGHT, ONE, NO_UNITS[kind], great_number(1, 600)]:
                self.assertIs(type(is_unit(kind, one)), bool)
            for unit in [ONE, (-1, 0), BASIC[kind]] + long_units(kind):
                self.assertIs(type(is_unit(kind, unit)), bool)
                self.assert_number(turned(kind, unit))
                # A pair of whole numbers too: the sign and the times.
                self.assert_number(told_unit(kind, unit))
            for sign in (1, -1):
                for times in (0, 1, -1, 2, 1000, -1000):
                    self.assert_number(unit_of(kind, sign, times))

    def test_parting(self):
        for kind in KINDS:
            for one in [ONE, (-1, 0), BASIC[kind], NO_UNITS[kind], (2, 0), (3, 0), (5, 0), (7, 0), (30, 6), (997, 0)]:
                self.assertIs(type(parts_no_further(kind, one)), bool)
                told = parts(kind, one)
                self.assertIs(type(told), tuple)
                self.assertEqual(len(told), 2)
                self.assert_number(told[0])
                self.assertIs(type(told[1]), list)
                for part in told[1]:
                    self.assert_number(part)
            self.assertIs(type(parts_no_further(kind, NOUGHT)), bool)

    def test_notes(self):
        for number in [NOUGHT, ONE, (-7, -12), great_number(1, 600)]:
            line = shown(number)
            self.assertIs(type(line), str)
            self.assert_number(read(line))


class NothingFromOutside(unittest.TestCase):
    def test_no_clock_chance_or_files(self):
        files = sorted(PACKAGE.glob("*.py"))
        self.assertTrue(files)
        for file in files:
            for node in ast.walk(ast.parse(file.read_text())):
                self.assertNotIsInstance(node, ast.Import, file.name)
                if isinstance(node, ast.ImportFrom):
                    self.assertEqual(node.module.split(".")[0], "twofold", file.name)
                if isinstance(node, ast.Name):
                    self.assertNotIn(node.id, ("open", "input", "print", "exec", "eval", "__import__"), file.name)


if __name__ == "__main__":
    unittest.main()
