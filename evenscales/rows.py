"""Rows of whole numbers, the right side last: weighed at a point, and summed with factors."""

from evenscales.errors import BadRow
from evenscales.quotients import plus, times


def check_rows(count, rows):
    for index, row in enumerate(rows):
        if len(row) != count + 1:
            raise BadRow(f"row {index} has more or fewer numbers than it should")


def sum_of_products(numbers, parts):
    total = (0, 1)
    for number, part in zip(numbers, parts):
        total = plus(total, times((number, 1), part))
    return total


def column(rows, place):
    return [row[place] for row in rows]


def weighed(row, point):
    return sum_of_products(row[:-1], point)


def fits(row, point):
    return weighed(row, point) == (row[-1], 1)


def summed(count, rows, factors):
    # Ahead of any sum, so that a bad row is refused wherever in the list it stands.
    check_rows(count, rows)
    return [sum_of_products(column(rows, place), factors) for place in range(count + 1)]
