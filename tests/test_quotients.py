import inspect
import itertools
import math
import unittest
from fractions import Fraction

from evenscales import quotients
from evenscales.errors import NoBottom, ScaleError
from evenscales.quotients import fraction, is_less, minus, over, plus, times

# A hundred figures each; the last two lie beyond that.
LARGE = [
    10**99,
    10**100 - 1,
    3**209,
    2**332,
    7 * 10**98 + 1,
    10**130 + 7,
    6**160,
]


def as_tuple(value):
    return (value.numerator, value.denominator)


def small_fractions():
    values = {Fraction(top, bottom) for top in range(-7, 8) for bottom in range(1, 8)}
    return [as_tuple(value) for value in sorted(values)]


def large_fractions():
    pairs = itertools.permutations(LARGE, 2)
    found = [as_tuple(Fraction(top, bottom)) for top, bottom in pairs]
    return found + [(-top, bottom) for top, bottom in found] + [(0, 1), (1, 1)]


class Checked(unittest.TestCase):
    def assert_is_fraction(self, found):
        self.assertIs(type(found), tuple)
        self.assertEqual(len(found), 2)
        for part in found:
            self.assertIs(type(part), int)
        self.assertGreaterEqual(found[1], 1)
        self.assertEqual(math.gcd(found[0], found[1]), 1)

    def assert_value(self, found, value):
        self.assert_is_fraction(found)
        self.assertEqual(found, as_tuple(value))


class MakingFractions(Checked):
    def test_ordinary(self):
        self.assertEqual(fraction(6, 4), (3, 2))
        self.assertEqual(fraction(3, 2), (3, 2))
        self.assertEqual(fraction(4, 6), (2, 3))
        self.assertEqual(fraction(12, 4), (3, 1))

    def test_signs(self):
        self.assertEqual(fraction(-6, 4), (-3, 2))
        self.assertEqual(fraction(6, -4), (-3, 2))
        self.assertEqual(fraction(-6, -4), (3, 2))
        self.assertEqual(fraction(5, -1), (-5, 1))

    def test_top_of_nought(self):
        for bottom in (1, 2, 17, -1, -2, -17, 10**99, -(10**99)):
            self.assertEqual(fraction(0, bottom), (0, 1))

    def test_whole_numbers(self):
        for number in (-3, -1, 0, 1, 3, 10**99, -(10**100) + 1):
            self.assertEqual(fraction(number, 1), (number, 1))
            self.assertEqual(fraction(7 * number, 7), (number, 1))

    def test_all_small_pairs(self):
        for top in range(-30, 31):
            for bottom in itertools.chain(range(-30, 0), range(1, 31)):
                self.assert_value(fraction(top, bottom), Fraction(top, bottom))

    def test_hundred_figures_and_beyond(self):
        for top, bottom in itertools.product(LARGE, repeat=2):
            for one, two in ((top, bottom), (-top, bottom), (top, -bottom), (-top, -bottom)):
                self.assert_value(fraction(one, two), Fraction(one, two))

    def test_bottom_of_nought_is_refused(self):
        for top in (0, 1, -1, 12, 10**99, -(10**99)):
            with self.assertRaises(NoBottom) as taken:
                fraction(top, 0)
            self.assertIsInstance(taken.exception, ScaleError)
            self.assertIsInstance(taken.exception, ValueError)


class Reckoning(Checked):
    def check_pair(self, one, two):
        left = Fraction(*one)
        right = Fraction(*two)
        self.assert_value(plus(one, two), left + right)
        self.assert_value(minus(one, two), left - right)
        self.assert_value(times(one, two), left * right)
        if right != 0:
            self.assert_value(over(one, two), left / right)
        self.assertIs(is_less(one, two), left < right)

    def test_written_examples(self):
        self.assertEqual(plus((1, 6), (1, 3)), (1, 2))
        self.assertEqual(plus((1, 2), (-1, 2)), (0, 1))
        self.assertEqual(minus((1, 6), (1, 3)), (-1, 6))
        self.assertEqual(minus((5, 7), (5, 7)), (0, 1))
        self.assertEqual(times((2, 3), (3, 4)), (1, 2))
        self.assertEqual(times((2, 3), (0, 1)), (0, 1))
        self.assertEqual(over((2, 3), (4, 1)), (1, 6))
        self.assertEqual(over((2, 3), (-4, 3)), (-1, 2))
        self.assertEqual(over((0, 1), (-4, 3)), (0, 1))

    def test_all_small_pairs(self):
        for one, two in itertools.product(small_fractions(), repeat=2):
            self.check_pair(one, two)

    def test_hundred_figures_and_beyond(self):
        for one, two in itertools.product(large_fractions(), repeat=2):
            self.check_pair(one, two)

    def test_less_is_told_exactly(self):
        # As floats these two would be the same.
        near = (10**99, 10**99 + 1)
        nearer = (10**99 + 1, 10**99 + 2)
        self.assertIs(is_less(near, nearer), True)
        self.assertIs(is_less(nearer, near), False)
        self.assertIs(is_less(near, near), False)
        self.assertIs(is_less((-1, 2), (-1, 3)), True)
        self.assertIs(is_less((-1, 3), (-1, 2)), False)

    def test_over_nought_is_refused(self):
        for one in ((0, 1), (1, 1), (-3, 7), (10**99, 7)):
            with self.assertRaises(NoBottom) as taken:
                over(one, (0, 1))
            self.assertIsInstance(taken.exception, ScaleError)
            self.assertIsInstance(taken.exception, ValueError)


class Interface(unittest.TestCase):
    def test_arguments(self):
        self.assertEqual(list(inspect.signature(fraction).parameters), ["top", "bottom"])
        for name in ("plus", "minus", "times", "over", "is_less"):
            found = inspect.signature(getattr(quotients, name)).parameters
            self.assertEqual(list(found), ["one", "two"])


if __name__ == "__main__":
    unittest.main()
