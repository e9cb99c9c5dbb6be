import unittest

from evenscales import errors


class ErrorClasses(unittest.TestCase):
    def test_scale_error_stands_straight_under_value_error(self):
        self.assertEqual(errors.ScaleError.__bases__, (ValueError,))

    def test_every_refusal_stands_straight_under_scale_error(self):
        for name in ("NoBottom", "BadRow", "BadValues", "NoSolution"):
            with self.subTest(name):
                self.assertEqual(getattr(errors, name).__bases__, (errors.ScaleError,))

    def test_no_refusal_is_taken_for_another(self):
        refusals = [errors.NoBottom, errors.BadRow, errors.BadValues, errors.NoSolution]
        self.assertEqual(len(set(refusals)), 4)

    def test_words_are_kept(self):
        self.assertEqual(str(errors.BadRow("too long")), "too long")


if __name__ == "__main__":
    unittest.main()
