import copy
import inspect
import itertools
import math
import random
import unittest
from fractions import Fraction

from evenscales.errors import BadRow, BadValues, NoSolution, ScaleError
from evenscales.rows import fits, summed
from evenscales.solving import same_solutions, solution_with, solved

NOUGHT = (0, 1)
ONE = (1, 1)


def as_tuple(value):
    return (value.numerator, value.denominator)


def as_fractions(parts):
    return [Fraction(*part) for part in parts]


# Solves each row by the fractions' own arithmetic, apart from the program's.
def solves(point, rows):
    return all(sum((w * x for w, x in zip(row, point)), Fraction(0)) == row[-1] for row in rows)


# The number of rows that are left when each is freed of what those before it have: by fractions, forward only.
def rank(lines):
    kept = []
    for line in lines:
        left = [Fraction(number) for number in line]
        for lead, other in kept:
            if left[lead] != 0:
                share = left[lead] / other[lead]
                left = [own - share * theirs for own, theirs in zip(left, other)]
        places = [place for place, number in enumerate(left) if number != 0]
        if places:
            kept.append((places[0], left))
    return len(kept)


# By point 6: a list that begins with noughts up to an unknown and then has one can be summed just
# where the columns up to this unknown have a greater rank than those before it.
def expected_free(count, rows):
    ranks = [rank([row[:width] for row in rows]) for width in range(count + 1)]
    return [unknown for unknown in range(count) if ranks[unknown + 1] == ranks[unknown]]


def has_solution(count, rows):
    return rank([row[:count] for row in rows]) == rank(rows)


def small_rows(source, count, length, most=3):
    return [[source.randrange(-most, most + 1) for place in range(count + 1)] for number in range(length)]


def large_number(source, figures):
    return source.choice((-1, 1)) * source.randrange(10 ** (figures - 1), 10**figures)


def large_rows(source, count, length, figures=100):
    return [[large_number(source, figures) for place in range(count + 1)] for number in range(length)]


# Rows that one whole point solves, some of them being sums of others.
def solvable_rows(source, count, length, own, most=3):
    point = [source.randrange(-most, most + 1) for place in range(count)]
    rows = []
    for number in range(length):
        if number < own:
            weights = [source.randrange(-most, most + 1) for place in range(count)]
            rows.append(weights + [sum(w * x for w, x in zip(weights, point))])
        else:
            shares = [source.randrange(-2, 3) for row in rows]
            rows.append([sum(s * row[place] for s, row in zip(shares, rows)) for place in range(count + 1)])
    source.shuffle(rows)
    return rows


class Checks(unittest.TestCase):
    def assert_fractions(self, parts, length):
        self.assertIs(type(parts), list)
        self.assertEqual(len(parts), length)
        for part in parts:
            self.assertIs(type(part), tuple)
            self.assertEqual([type(number) for number in part], [int, int])
            self.assertGreaterEqual(part[1], 1)
            self.assertEqual(math.gcd(part[0], part[1]), 1)

    def assert_never(self, count, rows, answer):
        self.assertIs(type(answer), tuple)
        self.assertEqual(len(answer), 2)
        self.assertEqual(answer[0], "never")
        self.assert_fractions(answer[1], len(rows))
        self.assertEqual(summed(count, rows, answer[1]), [NOUGHT] * count + [ONE])

    def assert_solved(self, count, rows, answer):
        self.assertIs(type(answer), tuple)
        self.assertEqual(len(answer), 3)
        self.assertEqual(answer[0], "solved")
        point, ways = answer[1:]
        free = expected_free(count, rows)
        self.assert_fractions(point, count)
        self.assertTrue(solves(as_fractions(point), rows))
        self.assertEqual([point[unknown] for unknown in free], [NOUGHT] * len(free))
        self.assertIs(type(ways), list)
        self.assertEqual([pair[0] for pair in ways], free)
        for pair in ways:
            self.assertIs(type(pair), tuple)
            self.assertEqual(len(pair), 2)
            self.assertIs(type(pair[0]), int)
            self.assert_way(count, rows, free, pair, point)

    def assert_way(self, count, rows, free, pair, point):
        unknown, way = pair
        self.assert_fractions(way, count)
        self.assertEqual([way[other] for other in free], [ONE if other == unknown else NOUGHT for other in free])
        added = [one + two for one, two in zip(as_fractions(point), as_fractions(way))]
        self.assertTrue(solves(added, rows))
        for greater in range(unknown + 1, count):
            self.assertEqual(way[greater], NOUGHT)

    def assert_answer(self, count, rows):
        before = copy.deepcopy(rows)
        answer = solved(count, rows)
        self.assertEqual(rows, before)
        if has_solution(count, rows):
            self.assert_solved(count, rows, answer)
        else:
            self.assert_never(count, rows, answer)
        return answer


class Solved(Checks):
    def test_written_examples(self):
        self.assertEqual(solved(2, [[2, 3, 8], [1, 1, 3]]), ("solved", [ONE, (2, 1)], []))
        self.assertEqual(solved(1, [[2, 1]]), ("solved", [(1, 2)], []))
        self.assertEqual(solved(1, [[-4, 6]]), ("solved", [(-3, 2)], []))
        self.assertEqual(solved(2, [[2, 3, 8]]), ("solved", [(4, 1), NOUGHT], [(1, [(-3, 2), ONE])]))
        self.assertEqual(solved(2, [[0, 3, 8]]), ("solved", [NOUGHT, (8, 3)], [(0, [ONE, NOUGHT])]))
        self.assertEqual(
            solved(4, [[1, 2, 0, 3, 4], [0, 0, 2, 5, 6]]),
            ("solved", [(4, 1), NOUGHT, (3, 1), NOUGHT],
             [(1, [(-2, 1), ONE, NOUGHT, NOUGHT]), (3, [(-3, 1), NOUGHT, (-5, 2), ONE])]),
        )

    def test_the_first_unknown_that_can_be_is_bound(self):
        # Either unknown could be told by the other; the lesser number is the bound one.
        answer = solved(3, [[0, 5, 1, 10]])
        self.assertEqual(answer, ("solved", [NOUGHT, (2, 1), NOUGHT],
                                  [(0, [ONE, NOUGHT, NOUGHT]), (2, [NOUGHT, (-1, 5), ONE])]))

    def test_bound_where_only_a_difference_of_rows_shows_it(self):
        self.assertEqual(solved(3, [[1, 1, 1, 6], [1, 1, 2, 9]]),
                         ("solved", [(3, 1), NOUGHT, (3, 1)], [(1, [(-1, 1), ONE, NOUGHT])]))

    def test_written_example_without_solution(self):
        self.assertEqual(solved(1, [[0, 4]]), ("never", [(1, 4)]))
        self.assertEqual(solved(1, [[0, -4]]), ("never", [(-1, 4)]))
        self.assertEqual(solved(1, [[1, 1], [1, 3]]), ("never", [(-1, 2), (1, 2)]))
        self.assertEqual(solved(2, [[1, 0, 5], [2, 4, 0], [1, 2, 2]]), ("never", [NOUGHT, (-1, 4), (1, 2)]))

    def test_no_row(self):
        self.assertEqual(solved(0, []), ("solved", [], []))
        self.assertEqual(solved(1, []), ("solved", [NOUGHT], [(0, [ONE])]))
        self.assertEqual(solved(2, []), ("solved", [NOUGHT, NOUGHT], [(0, [ONE, NOUGHT]), (1, [NOUGHT, ONE])]))
        for count in range(13):
            self.assert_answer(count, [])

    def test_no_unknown(self):
        self.assertEqual(solved(0, [[0]]), ("solved", [], []))
        self.assertEqual(solved(0, [[0]] * 15), ("solved", [], []))
        self.assertEqual(solved(0, [[5]]), ("never", [(1, 5)]))
        for rows in ([[0], [-2], [0]], [[3], [0], [4]], [[0], [0], [1]]):
            self.assertEqual(self.assert_answer(0, rows)[0], "never")

    def test_rows_of_noughts(self):
        for count in (0, 1, 3, 12):
            for length in (1, 2, 15):
                rows = [[0] * (count + 1) for number in range(length)]
                self.assertEqual(self.assert_answer(count, rows), solved(count, []))
                # Nought is not seven, whatever the unknowns are.
                rows[length // 2][count] = 7
                self.assertEqual(self.assert_answer(count, rows)[0], "never")

    def test_rows_of_noughts_beside_others(self):
        rows = [[2, 3, 8], [1, 1, 3]]
        for place in range(3):
            with_noughts = rows[:place] + [[0, 0, 0]] + rows[place:]
            self.assertEqual(solved(2, with_noughts), solved(2, rows))
            self.assertEqual(self.assert_answer(2, rows[:place] + [[0, 0, 1]] + rows[place:])[0], "never")

    def test_one_row_twice(self):
        row = [2, 3, 8]
        self.assertEqual(solved(2, [row, row]), solved(2, [row]))
        self.assertEqual(solved(2, [row, [2, 3, 8], [-4, -6, -16]]), solved(2, [row]))
        self.assertEqual(row, [2, 3, 8])
        self.assertEqual(self.assert_answer(2, [row, row, [2, 3, 9]])[0], "never")
        blank = [0, 1]
        self.assertEqual(self.assert_answer(1, [blank, blank])[0], "never")

    def test_rows_in_another_order(self):
        source = random.Random(60)
        for turn in range(25):
            count = source.randrange(1, 5)
            rows = solvable_rows(source, count, 4, source.randrange(1, 4))
            answer = solved(count, rows)
            self.assertEqual(answer[0], "solved")
            for turned in itertools.permutations(rows):
                self.assertEqual(solved(count, list(turned)), answer)

    def test_never_in_every_order(self):
        for rows in itertools.permutations([[1, 2, 3, 4], [2, 4, 6, 9], [0, 1, 1, 1], [1, 3, 4, 0]]):
            self.assertEqual(self.assert_answer(3, list(rows))[0], "never")

    def test_no_free_unknown(self):
        self.assertEqual(solved(3, [[0, 0, 2, 3], [0, 5, 0, -1], [7, 0, 0, 0]]),
                         ("solved", [NOUGHT, (-1, 5), (3, 2)], []))
        source = random.Random(61)
        for count in range(1, 13):
            rows = [[source.randrange(1, 9) if place == number else source.randrange(-9, 10) if place < number else 0
                     for place in range(count)] + [source.randrange(-9, 10)] for number in range(count)]
            source.shuffle(rows)
            self.assertEqual(self.assert_answer(count, rows)[2], [])

    def test_every_rows_of_small_numbers(self):
        numbers = (-1, 0, 2)
        for one in itertools.product(numbers, repeat=3):
            for two in itertools.product(numbers, repeat=3):
                self.assert_answer(2, [list(one), list(two)])

    def test_many_small_ones(self):
        source = random.Random(62)
        seen = {"solved": 0, "never": 0}
        for turn in range(1000):
            count = source.randrange(6)
            seen[self.assert_answer(count, small_rows(source, count, source.randrange(6)))[0]] += 1
        self.assertGreater(min(seen.values()), 100)

    def test_many_that_have_solutions(self):
        source = random.Random(63)
        for turn in range(400):
            count = source.randrange(8)
            length = source.randrange(1, 9)
            rows = solvable_rows(source, count, length, source.randrange(1, length + 1), 9)
            self.assertEqual(self.assert_answer(count, rows)[0], "solved")

    def test_many_where_one_right_side_is_off(self):
        source = random.Random(64)
        for turn in range(400):
            count = source.randrange(1, 7)
            rows = solvable_rows(source, count, count + 2, count)
            rows[source.randrange(len(rows))][count] += source.choice((-1, 1))
            self.assert_answer(count, rows)

    def test_large_numbers(self):
        source = random.Random(65)
        for count, length in ((12, 15), (12, 12), (12, 7), (12, 1), (1, 15), (2, 2)):
            self.assert_answer(count, large_rows(source, count, length))

    def test_large_numbers_with_rows_that_depend(self):
        source = random.Random(66)
        rows = large_rows(source, 12, 6, 98)
        for number in range(9):
            shares = [source.randrange(-3, 4) for row in rows[:6]]
            rows.append([sum(s * row[place] for s, row in zip(shares, rows)) for place in range(13)])
        source.shuffle(rows)
        answer = self.assert_answer(12, rows)
        self.assertEqual(answer[0], "solved")
        self.assertEqual(len(answer[2]), 6)
        rows[4][12] += 1
        self.assertEqual(self.assert_answer(12, rows)[0], "never")

    def test_nothing_is_rounded(self):
        large = 10**99
        self.assertEqual(solved(1, [[large, 1], [large + 1, 1]])[0], "never")
        self.assertEqual(solved(1, [[large + 1, large]]), ("solved", [(large, large + 1)], []))
        self.assertEqual(solved(2, [[large, large + 1, 0], [large - 1, large, 1]]),
                         ("solved", [(-large - 1, 1), (large, 1)], []))

    def test_somewhat_beyond_is_not_refused(self):
        source = random.Random(67)
        for count, length in ((14, 14), (13, 18), (16, 9)):
            self.assert_answer(count, large_rows(source, count, length, 110))

    def test_answers_are_made_anew(self):
        rows = [[1, 2, 0, 3]]
        answer = solved(3, rows)
        kept = copy.deepcopy(answer)
        answer[2][0][1][0] = "other"
        self.assertEqual(answer[2][1], kept[2][1])
        self.assertEqual(answer[1], kept[1])
        answer[1].append("more")
        answer[2].append("more")
        self.assertEqual(solved(3, rows), kept)
        self.assertEqual(rows, [[1, 2, 0, 3]])


class AllSolutions(Checks):
    def test_points_that_solve_are_just_those_made(self):
        source = random.Random(80)
        halves = [Fraction(number, 2) for number in range(-2, 3)]
        for turn in range(60):
            rows = solvable_rows(source, 3, source.randrange(4) or 1, source.randrange(1, 3), 2)
            point, ways = solved(3, rows)[1:]
            for tried in itertools.product(halves, repeat=3):
                made = as_fractions(point)
                for free, way in ways:
                    made = [own + tried[free] * Fraction(*step) for own, step in zip(made, way)]
                # The one point with these for the free unknowns that solves the rows is the one made.
                self.assertEqual(solves(tried, rows), list(tried) == made)

    def test_any_fractions_of_the_ways_solve_the_rows(self):
        source = random.Random(81)
        for turn in range(100):
            count = source.randrange(1, 7)
            rows = solvable_rows(source, count, 3, 2)
            point, ways = solved(count, rows)[1:]
            made = as_fractions(point)
            for free, way in ways:
                share = Fraction(source.randrange(-20, 21), source.randrange(1, 10))
                made = [own + share * Fraction(*step) for own, step in zip(made, way)]
            self.assertTrue(solves(made, rows))


class SolutionWith(Checks):
    def test_written_examples(self):
        self.assertEqual(solution_with(2, [[2, 3, 8]], [(7, 3)]), [(1, 2), (7, 3)])
        self.assertEqual(solution_with(2, [[2, 3, 8]], [NOUGHT]), [(4, 1), NOUGHT])
        self.assertEqual(solution_with(2, [[2, 3, 8], [1, 1, 3]], []), [ONE, (2, 1)])
        self.assertEqual(solution_with(2, [], [(1, 2), (-3, 4)]), [(1, 2), (-3, 4)])
        self.assertEqual(solution_with(4, [[1, 2, 0, 3, 4], [0, 0, 2, 5, 6]], [(1, 2), (2, 5)]),
                         [(9, 5), (1, 2), (2, 1), (2, 5)])

    def test_no_unknown(self):
        self.assertEqual(solution_with(0, [], []), [])
        self.assertEqual(solution_with(0, [[0], [0]], []), [])

    def test_rows_of_noughts_leave_every_value(self):
        values = [(number, number + 1) for number in range(12)]
        self.assertEqual(solution_with(12, [[0] * 13] * 3, values), values)

    def test_many_small_ones(self):
        source = random.Random(70)
        for turn in range(300):
            count = source.randrange(7)
            rows = solvable_rows(source, count, source.randrange(1, 5), source.randrange(1, 4))
            free = expected_free(count, rows)
            values = [as_tuple(Fraction(source.randrange(-9, 10), source.randrange(1, 9))) for unknown in free]
            rows_before = copy.deepcopy(rows)
            values_before = list(values)
            point = solution_with(count, rows, values)
            self.assertEqual((rows, values), (rows_before, values_before))
            self.assert_fractions(point, count)
            self.assertTrue(solves(as_fractions(point), rows))
            self.assertEqual([point[unknown] for unknown in free], values)

    def test_large_numbers(self):
        source = random.Random(71)
        rows = large_rows(source, 12, 6)
        values = [as_tuple(Fraction(large_number(source, 100), large_number(source, 100))) for unknown in range(6)]
        point = solution_with(12, rows, values)
        self.assert_fractions(point, 12)
        self.assertEqual(point[6:], values)
        self.assertTrue(solves(as_fractions(point), rows))
        self.assertTrue(all(fits(row, point) for row in rows))

    def test_not_one_value_for_each_free_unknown(self):
        one_free = [[2, 3, 8]]
        none_free = [[2, 3, 8], [1, 1, 3]]
        for rows, values in (
            (one_free, []), (one_free, [ONE, ONE]), (one_free, [NOUGHT] * 500), (none_free, [ONE]),
            (none_free, [NOUGHT, NOUGHT]), ([], []), ([], [ONE]), ([], [ONE] * 3), ([[0, 0, 0]], [ONE]),
        ):
            rows_before = copy.deepcopy(rows)
            values_before = list(values)
            with self.subTest(rows=rows, length=len(values)), self.assertRaises(BadValues) as taken:
                solution_with(2, rows, values)
            self.assertIsInstance(taken.exception, ScaleError)
            self.assertEqual((rows, values), (rows_before, values_before))
        with self.assertRaises(BadValues):
            solution_with(0, [], [NOUGHT])

    def test_no_solution_comes_ahead_of_bad_values(self):
        for values in ([], [ONE], [ONE, ONE], [ONE] * 7):
            for count, rows in ((2, [[1, 1, 1], [1, 1, 2]]), (2, [[0, 0, 1]]), (0, [[3]]), (1, [[1, 1], [1, 2]])):
                with self.assertRaises(NoSolution) as taken:
                    solution_with(count, rows, values)
                self.assertIsInstance(taken.exception, ScaleError)

    def test_bad_rows_come_ahead_of_all(self):
        for values in ([], [ONE], [ONE] * 7):
            for rows in ([[1, 1, 1], [1, 1, 2], [1, 1]], [[0, 0, 1], [0, 0, 0, 0]], [[]], [[1, 2], [0, 0, 1]]):
                with self.assertRaises(BadRow):
                    solution_with(2, rows, values)


class SameSolutions(Checks):
    def assert_same(self, count, rows, others, expected):
        before = copy.deepcopy((rows, others))
        self.assertIs(same_solutions(count, rows, others), expected)
        self.assertIs(same_solutions(count, others, rows), expected)
        self.assertEqual((rows, others), before)

    def test_written_examples(self):
        rows = [[2, 3, 8], [1, 1, 3]]
        self.assert_same(2, rows, rows, True)
        self.assert_same(2, rows, [[1, 1, 3], [2, 3, 8]], True)
        self.assert_same(2, rows, [[1, 0, 1], [0, 1, 2]], True)
        self.assert_same(2, rows, [[3, 4, 11], [1, 2, 5], [-2, -3, -8], [0, 0, 0]], True)
        self.assert_same(2, rows, [[2, 3, 8]], False)
        self.assert_same(2, rows, [[1, 0, 1], [0, 1, 3]], False)
        self.assert_same(2, [[2, 3, 8]], [[-4, -6, -16]], True)
        self.assert_same(2, [[2, 3, 8]], [[2, 3, 9]], False)
        self.assert_same(2, [[2, 3, 8]], [[2, 4, 8]], False)
        # The same point with nought for the free unknown, but another way.
        self.assert_same(2, [[1, 1, 0]], [[1, 2, 0]], False)
        # The same point, and other unknowns free.
        self.assert_same(2, [[1, 0, 0]], [[0, 1, 0]], False)

    def test_without_solutions(self):
        never = [[1, 1, 1], [1, 1, 2]]
        self.assert_same(2, never, [[0, 0, 5]], True)
        self.assert_same(2, never, [[1, 0, 1], [2, 0, 3]], True)
        self.assert_same(2, never, never, True)
        self.assert_same(2, never, [], False)
        self.assert_same(2, never, [[1, 1, 1]], False)
        self.assert_same(2, never, [[1, 0, 0], [0, 1, 0]], False)

    def test_no_row_and_rows_of_noughts(self):
        self.assert_same(2, [], [], True)
        self.assert_same(2, [], [[0, 0, 0]], True)
        self.assert_same(2, [[0, 0, 0]], [[0, 0, 0], [0, 0, 0]], True)
        self.assert_same(2, [], [[0, 0, 1]], False)
        self.assert_same(2, [], [[1, 0, 0]], False)

    def test_no_unknown(self):
        self.assert_same(0, [], [], True)
        self.assert_same(0, [], [[0]], True)
        self.assert_same(0, [], [[1]], False)
        self.assert_same(0, [[0]], [[2]], False)
        self.assert_same(0, [[1], [0]], [[2]], True)

    def test_one_row_twice(self):
        row = [1, 2, 3]
        self.assert_same(2, [row, row], [row], True)

    def test_many_small_ones(self):
        source = random.Random(100)
        seen = {True: 0, False: 0}
        for turn in range(1000):
            count = source.randrange(4)
            rows = small_rows(source, count, source.randrange(4), 1)
            others = small_rows(source, count, source.randrange(4), 1)
            if has_solution(count, rows) and has_solution(count, others):
                # Every point of each solves the other's just where neither adds to the other's rank.
                expected = rank(rows) == rank(others) == rank(rows + others)
            else:
                expected = has_solution(count, rows) == has_solution(count, others)
            seen[expected] += 1
            self.assert_same(count, rows, others, expected)
        self.assertGreater(min(seen.values()), 100)

    def test_rows_written_otherwise(self):
        source = random.Random(101)
        for turn in range(100):
            rows = solvable_rows(source, 4, 3, 3)
            mixed = [[source.choice((-3, -1, 2)) * number for number in row] for row in rows]
            mixed[0] = [own + 2 * other for own, other in zip(mixed[0], mixed[1])]
            mixed[2] = [own - other for own, other in zip(mixed[2], mixed[0])]
            source.shuffle(mixed)
            scaled = [row for row in rows for again in range(2)]
            self.assert_same(4, rows, scaled, True)
            self.assert_same(4, rows, mixed, rank(rows) == rank(rows + mixed) == rank(mixed))

    def test_large_numbers(self):
        source = random.Random(102)
        rows = large_rows(source, 12, 8)
        others = [[7 * number for number in row] for row in reversed(rows)]
        others[3] = [own + other for own, other in zip(others[3], others[5])]
        self.assert_same(12, rows, others, True)
        others[2][4] += 1
        self.assert_same(12, rows, others, False)
        others[2][4] -= 1
        others[2][12] += 1
        self.assert_same(12, rows, others, False)

    def test_bad_rows_in_either(self):
        good_ones = ([], [[1, 2, 3]], [[0, 0, 1]], [[1, 1, 1], [1, 1, 2]])
        bad_ones = ([[1, 2]], [[1, 2, 3, 4]], [[]], [[0, 0, 1], [1, 2]], [[1, 2, 3], [1, 2, 3, 4], [1, 2, 3]])
        for bad in bad_ones:
            with self.assertRaises(BadRow):
                same_solutions(2, bad, bad)
            for good in good_ones:
                with self.assertRaises(BadRow):
                    same_solutions(2, good, bad)
                with self.assertRaises(BadRow):
                    same_solutions(2, bad, good)


class RefusedRows(unittest.TestCase):
    def test_too_long_or_too_short_at_any_place(self):
        for count in (0, 1, 2, 12):
            for length in (1, 2, 3, 15):
                for place in range(length):
                    for wrong in (count + 2, 500, count, 0):
                        rows = [[0] * (count + 1) for number in range(length)]
                        rows[place] = [0] * wrong
                        before = copy.deepcopy(rows)
                        with self.subTest(count=count, length=length, place=place, wrong=wrong):
                            with self.assertRaises(BadRow) as taken:
                                solved(count, rows)
                            self.assertIsInstance(taken.exception, ScaleError)
                            self.assertEqual(rows, before)

    def test_beside_rows_without_solution(self):
        for rows in ([[0, 1], [1]], [[1], [0, 1]], [[0, 1], [0, 1, 2]], [[1, 1], [1, 2], []]):
            with self.assertRaises(BadRow):
                solved(1, rows)

    def test_all_alike_but_not_as_counted(self):
        for count, rows in ((2, [[1, 2], [3, 4]]), (1, [[1, 2, 3], [3, 4, 5]]), (0, [[]]), (0, [[0, 0]])):
            with self.assertRaises(BadRow):
                solved(count, rows)


class Interface(unittest.TestCase):
    def test_arguments(self):
        self.assertEqual(list(inspect.signature(solved).parameters), ["count", "rows"])
        self.assertEqual(list(inspect.signature(solution_with).parameters), ["count", "rows", "values"])
        self.assertEqual(list(inspect.signature(same_solutions).parameters), ["count", "rows", "others"])


if __name__ == "__main__":
    unittest.main()
