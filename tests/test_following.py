import copy
import inspect
import itertools
import math
import random
import unittest
from fractions import Fraction

from evenscales.errors import BadRow, ScaleError
from evenscales.following import follows
from evenscales.rows import fits, summed

NOUGHT = (0, 1)
ONE = (1, 1)


# By fractions, forward only, apart from how the program reduces.
def rank(lines):
    kept = []
    for line in lines:
        left = [Fraction(number) for number in line]
        for lead, other in kept:
            if left[lead] != 0:
                share = left[lead] / other[lead]
                left = [own - share * theirs for own, theirs in zip(left, other)]
        places = [place for place, number in enumerate(left) if number != 0]
        if places:
            kept.append((places[0], left))
    return len(kept)


def expected_word(count, rows, row):
    if rank([line[:count] for line in rows]) < rank(rows):
        return "never"
    return "sum" if rank(rows + [row]) == rank(rows) else "missed"


def small_rows(source, count, length, most=2):
    return [[source.randrange(-most, most + 1) for place in range(count + 1)] for number in range(length)]


def large_rows(source, count, length, figures=100):
    return [[source.choice((-1, 1)) * source.randrange(10 ** (figures - 1), 10**figures)
             for place in range(count + 1)] for number in range(length)]


def sum_of(rows, shares):
    return [sum(share * row[place] for share, row in zip(shares, rows)) for place in range(len(rows[0]))]


class Follows(unittest.TestCase):
    def assert_fractions(self, parts, length):
        self.assertIs(type(parts), list)
        self.assertEqual(len(parts), length)
        for part in parts:
            self.assertIs(type(part), tuple)
            self.assertEqual([type(number) for number in part], [int, int])
            self.assertGreaterEqual(part[1], 1)
            self.assertEqual(math.gcd(part[0], part[1]), 1)

    def assert_answer(self, count, rows, row):
        before = copy.deepcopy((rows, row))
        answer = follows(count, rows, row)
        self.assertEqual((rows, row), before)
        self.assertIs(type(answer), tuple)
        self.assertEqual(len(answer), 2)
        self.assertEqual(answer[0], expected_word(count, rows, row))
        if answer[0] == "missed":
            self.assert_fractions(answer[1], count)
            self.assertTrue(all(fits(line, answer[1]) for line in rows))
            self.assertFalse(fits(row, answer[1]))
        else:
            self.assert_fractions(answer[1], len(rows))
            wanted = [0] * count + [1] if answer[0] == "never" else row
            self.assertEqual(summed(count, rows, answer[1]), [(number, 1) for number in wanted])
        return answer[0]

    def test_written_examples(self):
        rows = [[2, 3, 8], [1, 1, 3]]
        self.assertEqual(follows(2, rows, [1, 2, 5]), ("sum", [ONE, (-1, 1)]))
        self.assertEqual(follows(2, rows, [1, 0, 1]), ("sum", [(-1, 1), (3, 1)]))
        self.assertEqual(follows(2, rows, [1, 0, 2]), ("missed", [ONE, (2, 1)]))
        self.assertEqual(follows(2, [[4, 6, 16]], [2, 3, 8]), ("sum", [(1, 2)]))
        self.assertEqual(follows(2, [[0, 0, 4]], [1, 1, 1]), ("never", [(1, 4)]))

    def test_only_a_way_misses_the_row(self):
        # Each of these rows is solved by the point that has nought for the free unknowns.
        for rows, row in (
            ([[1, 1, 1, 6]], [1, 2, 1, 6]),
            ([[1, 1, 1, 6]], [1, 1, 2, 6]),
            ([[1, 1, 1, 6]], [1, 0, 0, 6]),
            ([], [0, 0, 1, 0]),
            ([[0, 1, 0, 2]], [1, 1, 0, 2]),
        ):
            self.assertEqual(self.assert_answer(3, rows, row), "missed")

    def test_only_the_right_side_differs(self):
        self.assertEqual(self.assert_answer(2, [[1, 1, 1]], [1, 1, 2]), "missed")
        self.assertEqual(self.assert_answer(2, [[1, 1, 1]], [0, 0, 2]), "missed")
        self.assertEqual(self.assert_answer(2, [[1, 1, 1]], [0, 0, 0]), "sum")

    def test_two_ways_that_would_undo_each_other(self):
        self.assertEqual(self.assert_answer(2, [], [1, -1, 0]), "missed")
        self.assertEqual(self.assert_answer(3, [[1, 1, 1, 0]], [0, 1, -1, 0]), "missed")

    def test_no_row(self):
        self.assertEqual(follows(0, [], [0]), ("sum", []))
        self.assertEqual(follows(0, [], [3]), ("missed", []))
        for count in (1, 2, 12):
            self.assertEqual(follows(count, [], [0] * (count + 1)), ("sum", []))
            self.assertEqual(self.assert_answer(count, [], [0] * count + [1]), "missed")
            for place in range(count):
                row = [0] * (count + 1)
                row[place] = -3
                self.assertEqual(self.assert_answer(count, [], row), "missed")

    def test_no_unknown(self):
        self.assertEqual(self.assert_answer(0, [[0], [0]], [0]), "sum")
        self.assertEqual(follows(0, [[0], [0]], [5]), ("missed", []))
        self.assertEqual(self.assert_answer(0, [[0], [2]], [5]), "never")
        self.assertEqual(self.assert_answer(0, [[0], [2]], [0]), "never")

    def test_rows_of_noughts(self):
        noughts = [[0, 0, 0]] * 3
        self.assertEqual(self.assert_answer(2, noughts, [0, 0, 0]), "sum")
        self.assertEqual(self.assert_answer(2, noughts, [0, 0, 1]), "missed")
        self.assertEqual(self.assert_answer(2, noughts, [0, 1, 0]), "missed")
        self.assertEqual(self.assert_answer(2, noughts + [[0, 0, 2]], [0, 0, 0]), "never")

    def test_never_comes_ahead_of_a_sum(self):
        rows = [[1, 1, 1], [1, 1, 3]]
        for row in ([1, 1, 1], [0, 0, 0], [0, 0, 1], [2, 2, 4], [1, 0, 0]):
            self.assertEqual(self.assert_answer(2, rows, row), "never")

    def test_one_row_twice(self):
        row = [1, 2, 3]
        self.assertEqual(self.assert_answer(2, [row, row], row), "sum")
        self.assertEqual(self.assert_answer(2, [row, row, [1, 2, 4]], row), "never")
        self.assertEqual(row, [1, 2, 3])

    def test_each_row_follows_from_its_own_in_any_order(self):
        rows = [[2, 3, 1, 8], [1, 1, 0, 3], [3, 4, 1, 11], [0, 0, 0, 0]]
        for turned in itertools.permutations(rows):
            for row in rows:
                self.assertEqual(self.assert_answer(3, list(turned), row), "sum")
            self.assertEqual(self.assert_answer(3, list(turned), [1, 2, 0, 5]), "missed")

    def test_many_small_ones(self):
        source = random.Random(110)
        seen = {"never": 0, "sum": 0, "missed": 0}
        for turn in range(1500):
            count = source.randrange(5)
            rows = small_rows(source, count, source.randrange(5), 1)
            row = small_rows(source, count, 1)[0]
            seen[self.assert_answer(count, rows, row)] += 1
        self.assertGreater(min(seen.values()), 50)

    def test_many_sums(self):
        source = random.Random(111)
        for turn in range(300):
            count = source.randrange(2, 7)
            rows = small_rows(source, count, source.randrange(1, count), 5)
            row = sum_of(rows, [source.randrange(-3, 4) for line in rows])
            word = self.assert_answer(count, rows, row)
            self.assertIn(word, ("sum", "never"))
            row[source.randrange(count + 1)] += 1
            self.assert_answer(count, rows, row)

    def test_large_numbers(self):
        source = random.Random(112)
        for count, length in ((12, 12), (12, 6), (12, 1)):
            rows = large_rows(source, count, length, 98)
            row = sum_of(rows, [source.randrange(-3, 4) for line in rows])
            self.assertEqual(self.assert_answer(count, rows, row), "sum")
            for place in (0, count - 1, count):
                off = list(row)
                off[place] += 1
                self.assertEqual(self.assert_answer(count, rows, off), "missed")
        rows = large_rows(source, 12, 15)
        self.assertEqual(self.assert_answer(12, rows, rows[0]), "never")

    def test_fifteen_rows_that_depend(self):
        source = random.Random(113)
        rows = large_rows(source, 12, 5, 98)
        rows = rows + [sum_of(rows, [source.randrange(-3, 4) for line in rows]) for number in range(10)]
        source.shuffle(rows)
        row = sum_of(rows, [source.choice((-1, 0, 1)) for line in rows])
        self.assertEqual(self.assert_answer(12, rows, row), "sum")
        row[11] += 1
        self.assertEqual(self.assert_answer(12, rows, row), "missed")

    def test_somewhat_beyond_is_not_refused(self):
        source = random.Random(114)
        rows = large_rows(source, 14, 13, 110)
        self.assertEqual(self.assert_answer(14, rows, rows[12]), "sum")
        self.assertEqual(self.assert_answer(14, rows, large_rows(source, 14, 1, 110)[0]), "missed")

    def test_nothing_is_rounded(self):
        large = 10**99
        self.assertEqual(self.assert_answer(1, [[large, large + 1]], [large + 1, large + 2]), "missed")
        self.assertEqual(self.assert_answer(1, [[large, large]], [large + 1, large + 1]), "sum")


class RefusedRows(unittest.TestCase):
    def assert_refused(self, count, rows, row):
        before = copy.deepcopy((rows, row))
        with self.assertRaises(BadRow) as taken:
            follows(count, rows, row)
        self.assertIsInstance(taken.exception, ScaleError)
        self.assertEqual((rows, row), before)

    def test_bad_among_the_rows(self):
        for count in (0, 1, 2, 12):
            for wrong in (count + 2, 500, count, 0):
                for place in range(3):
                    rows = [[0] * (count + 1) for number in range(3)]
                    rows[place] = [0] * wrong
                    self.assert_refused(count, rows, [0] * (count + 1))
                    rows[place - 1] = [0] * count + [1]
                    self.assert_refused(count, rows, [0] * (count + 1))

    def test_bad_further_row(self):
        for count in (0, 1, 2, 12):
            for wrong in (count + 2, 500, count, 0):
                for rows in ([], [[0] * (count + 1)], [[1] * (count + 1)], [[0] * count + [1]]):
                    self.assert_refused(count, rows, [0] * wrong)
                    self.assert_refused(count, rows, [1] * wrong)

    def test_both_bad(self):
        self.assert_refused(2, [[1, 2]], [1, 2])
        self.assert_refused(2, [[1, 2, 3, 4]], [1, 2, 3, 4])
        self.assert_refused(0, [[]], [])


class Interface(unittest.TestCase):
    def test_arguments(self):
        self.assertEqual(list(inspect.signature(follows).parameters), ["count", "rows", "row"])


if __name__ == "__main__":
    unittest.main()
