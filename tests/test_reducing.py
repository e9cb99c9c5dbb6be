import copy
import random
import unittest

from evenscales.errors import BadRow
from evenscales.reducing import reduced
from evenscales.rows import summed


def small_rows(source, count, length):
    return [[source.randrange(-3, 4) for place in range(count + 1)] for number in range(length)]


class Reducing(unittest.TestCase):
    def check(self, count, rows):
        before = copy.deepcopy(rows)
        reduction = reduced(count, rows)
        self.assertEqual(rows, before)
        self.assertNotEqual(reduction.divisor, 0)
        self.assertEqual(len(reduction.bound) + len(reduction.rest), len(rows))
        self.assertEqual(list(reduction.bound), sorted(reduction.bound))
        for unknown, line in reduction.bound.items():
            self.assertEqual(line[:unknown], [0] * unknown)
            for other in reduction.bound:
                self.assertEqual(line[other], reduction.divisor if other == unknown else 0)
        for line in reduction.rest:
            self.assertEqual(line[:count], [0] * count)
        for line in list(reduction.bound.values()) + reduction.rest:
            self.assertEqual(len(line), count + 1 + len(rows))
            factors = [(number, 1) for number in line[count + 1:]]
            self.assertEqual(summed(count, rows, factors), [(number, 1) for number in line[:count + 1]])

    def test_many_small_ones(self):
        source = random.Random(6)
        for turn in range(600):
            count = source.randrange(6)
            self.check(count, small_rows(source, count, source.randrange(7)))

    def test_large_numbers_leave_nothing_over(self):
        source = random.Random(7)
        for count, length in ((12, 15), (12, 12), (12, 5), (3, 15)):
            self.check(count, [[source.randrange(-(10**100) + 1, 10**100) for place in range(count + 1)]
                               for number in range(length)])

    def test_rows_of_noughts(self):
        for count in (0, 1, 12):
            for length in (0, 1, 15):
                self.check(count, [[0] * (count + 1) for number in range(length)])

    def test_bad_rows_are_refused(self):
        for rows in ([[1, 2]], [[1, 2, 3, 4]], [[1, 2, 3], [1]], [[]]):
            with self.assertRaises(BadRow):
                reduced(2, rows)


if __name__ == "__main__":
    unittest.main()
