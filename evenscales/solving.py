"""All solutions of some rows, or the factors that show that there are none."""

from evenscales.errors import BadValues, NoSolution
from evenscales.quotients import fraction, plus, times
from evenscales.reducing import reduced


def point_of(count, reduction):
    point = [(0, 1)] * count
    for unknown, line in reduction.bound.items():
        point[unknown] = fraction(line[count], reduction.divisor)
    return point


def way_of(count, reduction, free):
    way = [(0, 1)] * count
    way[free] = (1, 1)
    # What the free unknown adds to a line's sum, the bound one has to take away again.
    for unknown, line in reduction.bound.items():
        way[unknown] = fraction(-line[free], reduction.divisor)
    return way


def ways_of(count, reduction):
    free_ones = [unknown for unknown in range(count) if unknown not in reduction.bound]
    return [(free, way_of(count, reduction, free)) for free in free_ones]


def answer_of(count, reduction):
    for line in reduction.rest:
        if line[count] != 0:
            return ("never", [fraction(factor, line[count]) for factor in line[count + 1:]])
    return ("solved", point_of(count, reduction), ways_of(count, reduction))


def solved(count, rows):
    return answer_of(count, reduced(count, rows))


def moved(point, way, value):
    return [plus(own, times(value, step)) for own, step in zip(point, way)]


def solution_with(count, rows, values):
    answer = solved(count, rows)
    if answer[0] == "never":
        raise NoSolution("no point solves the rows")
    point = answer[1]
    ways = answer[2]
    if len(values) != len(ways):
        raise BadValues("there is not one value for each free unknown")
    for value, pair in zip(values, ways):
        point = moved(point, pair[1], value)
    return point


def same_solutions(count, rows, others):
    one = solved(count, rows)
    two = solved(count, others)
    # Without solutions the factors may differ, and still the solutions are the same: none.
    if one[0] == "never" or two[0] == "never":
        return one[0] == two[0]
    # Point and ways are the only ones of their sort for the solutions, however the rows are written.
    return one == two
