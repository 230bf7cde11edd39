"""The leads that are still foreseen, where some worths are told, and what calms them."""

from itertools import permutations

from evenrows.checks import check_foreseeing, check_going_on, check_length, check_row, check_two
from evenrows.mending import exchange_of, unlike_pairs
from evenrows.rows import signs_of
from evenrows.smooth import differences_of
from evenrows.sums import sums_of

MOST_CALMED = 24


def straight_on(worths, places, order):
    """The worths gone on to so many places, with all differences beyond them 0."""
    check_going_on(worths, places, order)
    return tuple(gone_on(worths, places, order))


def foreseen(hands, row, told, one, other, order, *, bound=1):
    """The least and the greatest lead that the one hand can have of the other."""
    check_two(hands, row, one, other)
    check_foreseeing(row, told, order, bound)
    return foreseen_of(row, told, one, other, order, bound)


def calming(hands, row, told, order, *, bound=1):
    """The exchange that calms the leads foreseen, and the greatest one then, or None."""
    check_row(hands, row)
    check_foreseeing(row, told, order, bound)
    check_length(len(row), MOST_CALMED)
    found = []
    for one, other in unlike_pairs(row, len(told)):
        behind = exchange_of(row, one, other)
        found.append((most_foreseen(hands, behind, told, order, bound), one, other))
    if len(found) == 0:
        return None
    least, one, other = min(found)
    if least >= most_foreseen(hands, row, told, order, bound):
        return None
    return (one, other, least)


def gone_on(worths, places, order):
    """The list of the worths straight on, where all that is handed in is checked already."""
    line = list(worths)
    # The last difference of each order below the one, from 0 on; that of the
    # highest stays, and each step adds to every one that above it.
    ends = [differences_of(line, step)[-1] for step in range(order)]
    while len(line) < places:
        for step in range(order - 1, 0, -1):
            ends[step - 1] += ends[step]
        line.append(ends[0])
    return line


def foreseen_of(row, told, one, other, order, bound):
    """The leads foreseen, where all that is handed in is checked already."""
    line = signs_of(row, one, other)
    worths = gone_on(told, len(row), order)
    straight = sum([sign * worth for sign, worth in zip(line, worths)])
    reach = bound * sum([abs(tail) for tail in tails_of(line, order)[len(told):]])
    return (straight - reach, straight + reach)


def tails_of(line, order):
    """The tails of an order: its sums, taken from the last place on."""
    return sums_of(line[::-1], order)[::-1]


def most_foreseen(hands, row, told, order, bound):
    """The greatest lead foreseen of any hand of any other one."""
    found = [foreseen_of(row, told, one, other, order, bound) for one, other in permutations(range(hands), 2)]
    return max([leads[1] for leads in found])
