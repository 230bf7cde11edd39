"""The promises once more, by their words alone and by other ways of reckoning."""

from itertools import combinations, product
from math import comb


def rows(hands, places):
    return list(product(range(hands), repeat=places))


def some_rows():
    """All short rows, as pairs of hands and row."""
    return [
        (hands, row)
        for hands, longest in ((2, 8), (3, 5), (4, 4))
        for places in range(1, longest + 1)
        for row in rows(hands, places)
    ]


def total(row, hand, worths):
    return sum(worths[place] for place in range(len(row)) if row[place] == hand)


def powers(places, power):
    """Smooth worths: these of the powers up to a degree make up all others."""
    return tuple(place ** power for place in range(places))


def two_are_even(row, one, other, degree):
    return all(
        total(row, one, powers(len(row), power)) == total(row, other, powers(len(row), power))
        for power in range(degree + 1)
    )


def is_even(hands, row, degree):
    return all(two_are_even(row, one, other, degree) for one, other in combinations(range(hands), 2))


def evenness(hands, row):
    """Tried are more degrees than any row has places."""
    return max([-1] + [degree for degree in range(len(row) + 1) if is_even(hands, row, degree)])


def differences(worths, order):
    """By the binomial coefficients, with signs by turns."""
    return [
        sum((-1) ** (order - step) * comb(order, step) * worths[place + step] for step in range(order + 1))
        for place in range(len(worths) - order)
    ]


def sums(line, order):
    """By the binomial coefficients; of order 0 the line itself."""
    if order == 0:
        return list(line)
    return [
        sum(comb(place - back + order - 1, order - 1) * line[back] for back in range(place + 1))
        for place in range(len(line))
    ]


def signs(row, one, other):
    return [{one: 1, other: -1}.get(turn, 0) for turn in row]
