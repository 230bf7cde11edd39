"""The greatest leads that hands can have, and the worths at which they have them."""

from itertools import combinations

from evenrows.checks import check_bound, check_lead_order, check_row, check_two
from evenrows.errors import NotEven
from evenrows.rows import signs_of
from evenrows.sums import are_signs_even, sums_of


def greatest(hands, row, order, *, bound=1):
    """The greatest lead of any hand of any other one, None where there is none."""
    check_row(hands, row)
    check_lead_order(order)
    check_bound(bound)
    return greatest_of(hands, row, order, bound)


def of_two(hands, row, one, other, order, *, bound=1):
    """The greatest lead of the one hand of the other, None where there is none."""
    check_lead(hands, row, one, other, order, bound)
    return greatest_at(signs_of(row, one, other), order, bound)


def worst(hands, row, one, other, order, *, bound=1):
    """Worths at which the one hand has its greatest lead of the other one."""
    check_lead(hands, row, one, other, order, bound)
    line = signs_of(row, one, other)
    if not are_signs_even(line, order - 1):
        raise NotEven("the two hands are not even so far")
    gaps = worst_gaps(line, order, bound)
    # With as many noughts ahead, the sums of an order have these differences.
    return tuple(sums_of([0] * order + gaps, order)[:len(line)])


def check_lead(hands, row, one, other, order, bound):
    """Refuse what is none of the things that a lead of two hands is told of."""
    check_two(hands, row, one, other)
    check_lead_order(order)
    check_bound(bound)


def greatest_of(hands, row, order, bound):
    """The greatest lead, where all that is handed in is checked already."""
    pairs = list(combinations(range(hands), 2))
    found = [greatest_at(signs_of(row, one, other), order, bound) for one, other in pairs]
    if None in found:
        return None
    return max(found)


def greatest_at(line, order, bound):
    """The greatest lead of the two hands whose signs the line has, or None."""
    if not are_signs_even(line, order - 1):
        return None
    return bound * sum([abs(number) for number in sums_of(line, order)])


def worst_gaps(line, order, bound):
    """For each place the difference of the order that makes the lead greatest."""
    # A lead is the sum of the products of sums and differences, and its sign
    # is turned about once for each order.
    most = bound
    if order % 2 == 1:
        most = -bound
    return [most * direction(number) for number in sums_of(line, order)]


def direction(number):
    """1, 0 or -1, as the number is above 0, 0 or below."""
    if number > 0:
        return 1
    if number < 0:
        return -1
    return 0
