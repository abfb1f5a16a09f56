import unittest

from twofold import errors


class Classes(unittest.TestCase):
    def test_any_refusal_is_a_value_error(self):
        self.assertEqual(errors.FoldError.__bases__, (ValueError,))

    def test_each_refusal_stands_under_fold_error(self):
        for name in ("BadKind", "ByNought", "NoUnit", "NoLine"):
            with self.subTest(name):
                self.assertEqual(getattr(errors, name).__bases__, (errors.FoldError,))

    def test_no_refusal_is_taken_for_another(self):
        classes = (errors.BadKind, errors.ByNought, errors.NoUnit, errors.NoLine)
        for one in classes:
            for two in classes:
                self.assertEqual(issubclass(one, two), one is two)

    def test_each_is_made_with_words(self):
        for name in ("FoldError", "BadKind", "ByNought", "NoUnit", "NoLine"):
            with self.subTest(name):
                self.assertEqual(str(getattr(errors, name)("words")), "words")


if __name__ == "__main__":
    unittest.main()
