"""Points 1 and 2, and the interface: what holds for every function alike."""

import ast
import inspect
import pathlib
import unittest

from samples import KINDS, NO_KINDS, NOUGHT, ONE, great_number
from twofold.dividing import alike, common, divides, split
from twofold.errors import BadKind, ByNought, FoldError
from twofold.sums import added, multiplied, size

OF_TWO = (added, multiplied, split, divides, alike, common)
PACKAGE = pathlib.Path(__file__).resolve().parent.parent / "twofold"


class Arguments(unittest.TestCase):
    def test_names_and_order(self):
        for function in OF_TWO:
            with self.subTest(function.__name__):
                self.assertEqual(list(inspect.signature(function).parameters), ["kind", "one", "two"])
        self.assertEqual(list(inspect.signature(size).parameters), ["kind", "one"])


class Kinds(unittest.TestCase):
    def test_the_four_kinds_are_taken(self):
        for kind in KINDS:
            for function in OF_TWO:
                function(kind, (3, 2), (1, 1))
            size(kind, (3, 2))

    def assert_refused(self, function, *values):
        with self.assertRaises(BadKind) as caught:
            function(*values)
        self.assertIsInstance(caught.exception, FoldError)
        self.assertIsInstance(caught.exception, ValueError)

    def test_every_other_kind_is_refused(self):
        for kind in NO_KINDS:
            for function in OF_TWO:
                for one, two in (((3, 2), (1, 1)), (NOUGHT, ONE), (ONE, NOUGHT), (NOUGHT, NOUGHT)):
                    with self.subTest(function.__name__, place=NO_KINDS.index(kind), one=one, two=two):
                        self.assert_refused(function, kind, one, two)
            for one in ((3, 2), ONE, NOUGHT):
                self.assert_refused(size, kind, one)

    def test_bad_kind_goes_ahead_of_by_nought(self):
        for kind in NO_KINDS:
            with self.assertRaises(BadKind) as caught:
                split(kind, (3, 2), NOUGHT)
            self.assertNotIsInstance(caught.exception, ByNought)


class HandedIn(unittest.TestCase):
    def pairs(self):
        return [((7, 2), (2, 1)), (NOUGHT, (2, 1)), ((7, 2), (-7, -2)),
                (great_number(1, 600), great_number(2, 600)),
                (great_number(3, 900), great_number(4, 850))]

    def test_it_is_unchanged(self):
        for kind in KINDS:
            for one, two in self.pairs():
                first, second = (one[0], one[1]), (two[0], two[1])
                for function in OF_TWO:
                    function(kind, one, two)
                    self.assertEqual((one, two), (first, second))
                size(kind, one)
                self.assertEqual(one, first)

    def test_asked_again_the_answer_is_the_same(self):
        for kind in KINDS:
            for one, two in self.pairs():
                for function in OF_TWO:
                    self.assertEqual(function(kind, one, two), function(kind, one, two))


class ComingBack(unittest.TestCase):
    def assert_number(self, value):
        self.assertIs(type(value), tuple)
        self.assertEqual([type(part) for part in value], [int, int])

    def assert_numbers(self, value, count):
        self.assertIs(type(value), tuple)
        self.assertEqual(len(value), count)
        for number in value:
            self.assert_number(number)

    def test_kinds_of_values(self):
        samples = [(7, 2), (2, 1), (-2, -1), ONE, (0, -3), great_number(1, 600)]
        for kind in KINDS:
            for one in samples + [NOUGHT]:
                self.assertIs(type(size(kind, one)), int)
                for two in samples:
                    self.assert_numbers(split(kind, one, two), 2)
                for two in samples + [NOUGHT]:
                    self.assert_number(added(kind, one, two))
                    self.assert_number(multiplied(kind, one, two))
                    self.assertIs(type(divides(kind, one, two)), bool)
                    self.assertIs(type(alike(kind, one, two)), bool)
                    self.assert_numbers(common(kind, one, two), 3)


class NothingFromOutside(unittest.TestCase):
    def test_no_clock_chance_or_files(self):
        files = sorted(PACKAGE.glob("*.py"))
        self.assertTrue(files)
        for file in files:
            for node in ast.walk(ast.parse(file.read_text())):
                self.assertNotIsInstance(node, ast.Import, file.name)
                if isinstance(node, ast.ImportFrom):
                    self.assertEqual(node.module.split(".")[0], "twofold", file.name)
                if isinstance(node, ast.Name):
                    self.assertNotIn(node.id, ("open", "input", "print", "exec", "eval", "__import__"), file.name)


if __name__ == "__main__":
    unittest.main()
