"""Point 13."""

import itertools
import re
import unittest

from samples import box, great, great_number
from twofold.errors import FoldError, NoLine
from twofold.notes import read, shown

LINE = re.compile(r"(0|-?[1-9][0-9]*)(\+0|[+-][1-9][0-9]*)w")

EXAMPLES = {(3, 2): "3+2w", (-3, -2): "-3-2w", (0, 0): "0+0w"}

CHOSEN = {(3, -2): "3-2w", (-3, 2): "-3+2w", (0, 1): "0+1w", (0, -1): "0-1w", (1, 0): "1+0w", (-1, 0): "-1+0w",
          (10, -20): "10-20w", (-100, 5): "-100+5w", (1234567890, -9876543210): "1234567890-9876543210w"}

# Those that the document names.
NAMED = ("3", "2w", "3+w", "3-0w", "-0+1w", "03+1w", "+3+1w", "3+-1w", "3 + 1w", "3+1W", "")

REFUSED = (" ", "w", "+", "-", "+w", "-w", "-3", "-2w", "ww", "3w", "3+", "3+2", "3-2", "+2w", "3w+2w", "3+2ww",
           "w3+2w", "2w+3", "0", "0w", "-0+0w", "0-0w", "-0-0w", "-0-1w", "00+0w", "0+00w", "3+02w", "3-02w", "-03+1w",
           "003+1w", "3+002w", "--3+1w", "-+3+1w", "+-3+1w", "3++1w", "3--1w", "3-+1w", "3+1+1w", "3-1-1w", "3+1-1w",
           "3-1+1w", "-+1w", "--1w", "-3w", "3+1w-", "3+1w+", "3+1-w", " 3+1w", "3+1w ", "3 +1w", "3+ 1w", "3+1 w",
           "- 3+1w", "3+1w\n", "\n3+1w", "3+1w\r", "3+1w\t", "\t3+1w", "3+\n1w", "3+1w\0", "1_0+1w", "3+1_0w", "3.0+1w",
           "3,0+1w", "0x3+1w", "3e1+1w", "a+1w", "3+bw", "(3+1w)", "(3, 1)", "3+1*w", "3*1w", "3+1w3", "3+1w+3+1w",
           "3+1w3+1w", "3+1i", "3+1v", "3=1w", "3_1w", "3 1w")


class Shown(unittest.TestCase):
    def test_examples(self):
        for number, line in (EXAMPLES | CHOSEN).items():
            self.assertEqual(shown(number), line)

    def test_great(self):
        for figures in (1, 9, 18, 19, 600, 700):
            for seed in range(4):
                a, b = great_number(seed, figures)
                self.assertEqual(shown((a, b)), f"{a}{'-' if b < 0 else '+'}{abs(b)}w")

    def test_noughts_behind_and_within(self):
        for count in (1, 18, 19, 599, 600, 5000):
            self.assertEqual(shown((10 ** count, -(10 ** count))), f"1{'0' * count}-1{'0' * count}w")
            self.assertEqual(shown((-(10 ** count) - 7, 0)), f"-1{'0' * (count - 1)}7+0w")


class Read(unittest.TestCase):
    def assert_refused(self, line):
        with self.assertRaises(NoLine) as caught:
            read(line)
        self.assertIsInstance(caught.exception, FoldError)
        self.assertIsInstance(caught.exception, ValueError)

    def test_examples(self):
        for number, line in (EXAMPLES | CHOSEN).items():
            self.assertEqual(read(line), number)

    def test_shown_numbers_are_read_again(self):
        for number in box(25):
            self.assertEqual(read(shown(number)), number)
        for figures in (2, 9, 18, 19, 100, 599, 600, 601, 800, 5000):
            for seed in range(4):
                number = great_number(seed, figures)
                self.assertEqual(read(shown(number)), number)
            self.assertEqual(read(shown((0, -great(1, figures)))), (0, -great(1, figures)))
            self.assertEqual(read(shown((-great(1, figures), 0))), (-great(1, figures), 0))

    def test_refused_by_the_document(self):
        for line in NAMED:
            with self.subTest(line):
                self.assert_refused(line)

    def test_refused(self):
        for line in REFUSED:
            with self.subTest(line):
                self.assert_refused(line)

    def check(self, line):
        if LINE.fullmatch(line):
            self.assertEqual(shown(read(line)), line)
        else:
            self.assert_refused(line)

    def test_every_short_line(self):
        for length in range(7):
            for signs in itertools.product("01+-w ", repeat=length):
                line = "".join(signs)
                with self.subTest(line):
                    self.check(line)

    def test_every_ascii_sign_at_every_place(self):
        for line in ("3+2w", "-30-12w", "0+0w", "-7+10w"):
            for place in range(len(line) + 1):
                for sign in map(chr, range(128)):
                    for changed in (line[:place] + sign + line[place:], line[:place] + sign + line[place + 1:]):
                        with self.subTest(changed):
                            self.check(changed)

    def test_great_lines_with_something_wrong(self):
        figures = str(great(1, 600))
        self.assertEqual(read(f"-{figures}-{figures}w"), (-great(1, 600), -great(1, 600)))
        for line in (f"{figures}+{figures}", f"0{figures}+{figures}w", f"{figures}+0{figures}w", f"{figures}w",
                     f"{figures} {figures}w", f"+{figures}+{figures}w", f"{figures}-{figures}W",
                     f"{figures}-{figures}ww", f"{figures}+{figures}x{figures}w", f"{figures}x{figures}+{figures}w",
                     figures, "0" * 600 + "+1w", "1+" + "0" * 600 + "w", "-" * 600 + "1+1w", "w" * 600):
            self.assert_refused(line)


if __name__ == "__main__":
    unittest.main()
