"""Fractions as tuples (top, bottom) in lowest terms, the bottom being one or more."""

from evenscales.errors import NoBottom


def greatest_divisor(one, two):
    larger = abs(one)
    smaller = abs(two)
    while smaller != 0:
        rest = larger % smaller
        larger = smaller
        smaller = rest
    return larger


def fraction(top, bottom):
    if bottom == 0:
        raise NoBottom("the bottom of a fraction is nought")
    divisor = greatest_divisor(top, bottom)
    # A divisor below nought turns both signs, which leaves the bottom above nought.
    if bottom < 0:
        divisor = -divisor
    return (top // divisor, bottom // divisor)


# In lowest terms, the sum's top can have in common with its bottom only what the two bottoms
# have in common. Looking for divisors there alone keeps a long sum of large fractions quick.
def plus(one, two):
    shared = greatest_divisor(one[1], two[1])
    top = one[0] * (two[1] // shared) + two[0] * (one[1] // shared)
    divisor = greatest_divisor(top, shared)
    return (top // divisor, (one[1] // shared) * (two[1] // divisor))


def minus(one, two):
    return plus(one, (-two[0], two[1]))


def times(one, two):
    return fraction(one[0] * two[0], one[1] * two[1])


def over(one, two):
    if two[0] == 0:
        raise NoBottom("a fraction is divided by nought")
    return fraction(one[0] * two[1], one[1] * two[0])


def is_less(one, two):
    # Both bottoms are above nought, so multiplying by them keeps the order.
    return one[0] * two[1] < two[0] * one[1]
