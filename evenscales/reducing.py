"""Rows brought to a form from which the answers are read, in whole numbers throughout.

A line is a list: the numbers of a row, and behind them one whole number for each row
that was handed in, the factors with which those rows sum up to the row in front.
"""

from evenscales.rows import check_rows


# In the line of a bound unknown, this one has the divisor and each other bound one has nought.
# In the lines of the rest every unknown has nought, so that their right sides alone speak.
class Reduction:
    def __init__(self, divisor, bound, rest):
        self.divisor = divisor
        self.bound = bound
        self.rest = rest


def one_among_noughts(place, length):
    return [0] * place + [1] + [0] * (length - place - 1)


def lines_of(rows):
    return [row + one_among_noughts(place, len(rows)) for place, row in enumerate(rows)]


def first_place_with(lines, unknown):
    for place, line in enumerate(lines):
        if line[unknown] != 0:
            return place
    return None


# Every number that comes out is a determinant of numbers that were handed in, up to its sign,
# where the divisor is the pivot of the step before (one at first). So nothing is left over by
# the division, and the numbers stay short without a search for what they have in common.
def cleared(line, pivot, unknown, divisor):
    return [(own * pivot[unknown] - other * line[unknown]) // divisor for own, other in zip(line, pivot)]


def reduced(count, rows):
    check_rows(count, rows)
    divisor = 1
    bound = {}
    rest = lines_of(rows)
    for unknown in range(count):
        place = first_place_with(rest, unknown)
        if place is not None:
            pivot = rest[place]
            for earlier in list(bound):
                bound[earlier] = cleared(bound[earlier], pivot, unknown, divisor)
            bound[unknown] = pivot
            rest = [cleared(line, pivot, unknown, divisor) for line in rest[:place] + rest[place + 1:]]
            divisor = pivot[unknown]
    return Reduction(divisor, bound, rest)
