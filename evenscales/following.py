"""Whether a further row follows from some rows."""

from evenscales.quotients import fraction
from evenscales.reducing import reduced
from evenscales.rows import check_rows, fits
from evenscales.solving import answer_of, moved


# A row that is solved by the point, and by it with each way added once, is solved by every
# solution: so where any solution misses the row, one of these does.
def telling_points(point, ways):
    return [point] + [moved(point, pair[1], (1, 1)) for pair in ways]


# The further row follows here, so the lines of the bound unknowns, each as often as the row has
# its unknown, sum up to it.
def factors_to(count, reduction, length, row):
    factors = []
    for place in range(count + 1, count + 1 + length):
        top = sum([row[unknown] * line[place] for unknown, line in reduction.bound.items()])
        factors.append(fraction(top, reduction.divisor))
    return factors


def follows(count, rows, row):
    check_rows(count, [row])
    reduction = reduced(count, rows)
    answer = answer_of(count, reduction)
    if answer[0] == "never":
        return answer
    for point in telling_points(answer[1], answer[2]):
        if not fits(row, point):
            return ("missed", point)
    return ("sum", factors_to(count, reduction, len(rows), row))
