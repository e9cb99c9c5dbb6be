import copy
import inspect
import math
import random
import unittest
from fractions import Fraction

from evenscales.errors import BadRow, ScaleError
from evenscales.rows import fits, summed, weighed


def as_tuple(value):
    return (value.numerator, value.denominator)


def whole_number(source, figures):
    return source.choice((-1, 1)) * source.randrange(10 ** (figures - 1), 10**figures)


def whole_numbers(source, length, figures):
    return [whole_number(source, figures) for place in range(length)]


def fraction_list(source, length, figures):
    return [
        as_tuple(Fraction(whole_number(source, figures), abs(whole_number(source, figures))))
        for place in range(length)
    ]


def expected_weight(row, point):
    return as_tuple(sum((weight * Fraction(*part) for weight, part in zip(row, point)), Fraction(0)))


def expected_sum(count, rows, factors):
    return [
        as_tuple(sum((row[place] * Fraction(*factor) for row, factor in zip(rows, factors)), Fraction(0)))
        for place in range(count + 1)
    ]


class Weighing(unittest.TestCase):
    def test_written_examples(self):
        self.assertEqual(weighed([2, 3, 8], [(1, 2), (7, 3)]), (8, 1))
        self.assertEqual(weighed([2, 3, 100], [(1, 2), (7, 3)]), (8, 1))
        self.assertEqual(weighed([1, 1, 0], [(1, 2), (1, 3)]), (5, 6))
        self.assertEqual(weighed([-4, 0], [(1, 6)]), (-2, 3))
        self.assertEqual(weighed([0, 0, 9], [(1, 2), (1, 3)]), (0, 1))
        self.assertEqual(weighed([3, -3, 9], [(1, 2), (1, 2)]), (0, 1))

    def test_no_unknown(self):
        for side in (-7, 0, 7):
            self.assertEqual(weighed([side], []), (0, 1))

    def test_twelve_unknowns_of_a_hundred_figures(self):
        source = random.Random(12)
        for turn in range(5):
            row = whole_numbers(source, 13, 100)
            point = fraction_list(source, 12, 100)
            self.assertEqual(weighed(row, point), expected_weight(row, point))

    def test_five_hundred_parts(self):
        source = random.Random(500)
        row = whole_numbers(source, 501, 100)
        point = fraction_list(source, 500, 100)
        # Told by the bottoms' own product: adding so many up one by one in lowest terms is slow.
        bottom = 1
        for part in point:
            bottom *= part[1]
        top = sum(weight * part[0] * (bottom // part[1]) for weight, part in zip(row, point))
        found = weighed(row, point)
        self.assertEqual(found[0] * bottom, top * found[1])
        self.assertEqual(math.gcd(found[0], found[1]), 1)

    def test_nothing_handed_in_is_changed(self):
        row = [2, 3, 8]
        point = [(1, 2), (7, 3)]
        weighed(row, point)
        fits(row, point)
        self.assertEqual(row, [2, 3, 8])
        self.assertEqual(point, [(1, 2), (7, 3)])


class Fitting(unittest.TestCase):
    def test_written_examples(self):
        self.assertIs(fits([2, 3, 8], [(1, 2), (7, 3)]), True)
        self.assertIs(fits([2, 3, 7], [(1, 2), (7, 3)]), False)
        self.assertIs(fits([2, 3, -8], [(1, 2), (7, 3)]), False)
        self.assertIs(fits([1, 0], [(1, 2)]), False)
        self.assertIs(fits([0, 0], [(1, 2)]), True)
        self.assertIs(fits([0, 1], [(1, 2)]), False)
        # The top alone is the right side here, the whole fraction is not.
        self.assertIs(fits([1, 1], [(1, 2)]), False)

    def test_no_unknown(self):
        self.assertIs(fits([0], []), True)
        self.assertIs(fits([1], []), False)
        self.assertIs(fits([-1], []), False)

    def test_nothing_is_rounded(self):
        large = 10**99
        self.assertIs(fits([large, 1], [(1, large)]), True)
        self.assertIs(fits([large, 1], [(1, large + 1)]), False)
        self.assertIs(fits([large + 1, large, 1], [(1, 1), (-1, 1)]), True)
        self.assertIs(fits([large + 1, large, 0], [(1, 1), (-1, 1)]), False)


class Summing(unittest.TestCase):
    def test_written_examples(self):
        rows = [[2, 3, 8], [1, 1, 5]]
        self.assertEqual(summed(2, rows, [(1, 2), (-1, 1)]), [(0, 1), (1, 2), (-1, 1)])
        self.assertEqual(summed(2, rows, [(0, 1), (0, 1)]), [(0, 1), (0, 1), (0, 1)])
        self.assertEqual(summed(2, rows, [(1, 1), (0, 1)]), [(2, 1), (3, 1), (8, 1)])
        self.assertEqual(summed(2, rows, [(0, 1), (1, 6)]), [(1, 6), (1, 6), (5, 6)])

    def test_no_row(self):
        for count in (0, 1, 5, 12):
            self.assertEqual(summed(count, [], []), [(0, 1)] * (count + 1))

    def test_no_unknown(self):
        self.assertEqual(summed(0, [[3]], [(2, 3)]), [(2, 1)])
        self.assertEqual(summed(0, [[3], [4]], [(1, 2), (-1, 3)]), [(1, 6)])

    def test_same_row_twice(self):
        row = [1, 2]
        self.assertEqual(summed(1, [row, row], [(1, 2), (1, 3)]), [(5, 6), (5, 3)])

    def test_answer_is_a_new_list_of_tuples(self):
        found = summed(1, [[1, 2]], [(1, 2)])
        self.assertIs(type(found), list)
        for part in found:
            self.assertIs(type(part), tuple)
            self.assertEqual([type(number) for number in part], [int, int])
        found.append("more")
        self.assertEqual(summed(1, [[1, 2]], [(1, 2)]), [(1, 2), (1, 1)])

    def test_many_small_sums(self):
        source = random.Random(4)
        for turn in range(200):
            count = source.randrange(5)
            length = source.randrange(5)
            rows = [[source.randrange(-4, 5) for place in range(count + 1)] for number in range(length)]
            factors = [as_tuple(Fraction(source.randrange(-6, 7), source.randrange(1, 7))) for row in rows]
            self.assertEqual(summed(count, rows, factors), expected_sum(count, rows, factors))

    def test_fifteen_rows_and_twelve_unknowns_of_a_hundred_figures(self):
        self.check_large(12, 15, 100)

    def test_somewhat_beyond_is_not_refused(self):
        self.check_large(14, 18, 120)

    def check_large(self, count, length, figures):
        source = random.Random(count)
        rows = [whole_numbers(source, count + 1, figures) for number in range(length)]
        factors = fraction_list(source, length, figures)
        self.assertEqual(summed(count, rows, factors), expected_sum(count, rows, factors))

    def test_five_hundred_rows_of_one_number(self):
        rows = [[number] for number in range(500)]
        factors = [(1, number + 1) for number in range(500)]
        self.assertEqual(summed(0, rows, factors), expected_sum(0, rows, factors))

    def test_nothing_handed_in_is_changed(self):
        rows = [[2, 3, 8], [1, 1, 5], [0, 0, 0]]
        factors = [(1, 2), (-1, 1), (4, 3)]
        rows_before = copy.deepcopy(rows)
        factors_before = copy.deepcopy(factors)
        summed(2, rows, factors)
        self.assertEqual(rows, rows_before)
        self.assertEqual(factors, factors_before)


class RefusedRows(unittest.TestCase):
    def assert_refused(self, count, rows):
        # Factors of nought too: a bad row is refused even where it would add nothing.
        for factor in ((1, 1), (0, 1), (-2, 3)):
            factors = [factor] * len(rows)
            before = copy.deepcopy(rows)
            with self.assertRaises(BadRow) as taken:
                summed(count, rows, factors)
            self.assertIsInstance(taken.exception, ScaleError)
            self.assertIsInstance(taken.exception, ValueError)
            self.assertEqual(rows, before)
            self.assertEqual(factors, [factor] * len(rows))

    def test_too_long_or_too_short_at_any_place(self):
        for count in (0, 1, 2, 12):
            for length in (1, 2, 3, 15):
                for place in range(length):
                    for wrong in (count + 2, count + 5, count, 0):
                        rows = [[1] * (count + 1) for number in range(length)]
                        rows[place] = [1] * wrong
                        with self.subTest(count=count, length=length, place=place, wrong=wrong):
                            self.assert_refused(count, rows)

    def test_one_too_long_beside_one_too_short(self):
        self.assert_refused(2, [[1, 2], [1, 2, 3, 4]])
        self.assert_refused(2, [[1, 2, 3, 4], [1, 2]])

    def test_all_alike_but_not_as_counted(self):
        self.assert_refused(2, [[1, 2], [3, 4]])
        self.assert_refused(1, [[1, 2, 3], [3, 4, 5]])
        self.assert_refused(0, [[]])
        self.assert_refused(0, [[1, 2]])


class Interface(unittest.TestCase):
    def test_arguments(self):
        self.assertEqual(list(inspect.signature(weighed).parameters), ["row", "point"])
        self.assertEqual(list(inspect.signature(fits).parameters), ["row", "point"])
        self.assertEqual(list(inspect.signature(summed).parameters), ["count", "rows", "factors"])


if __name__ == "__main__":
    unittest.main()
