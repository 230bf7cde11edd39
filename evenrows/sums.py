"""To which degree rows are even, and the sums that show it."""

from evenrows.checks import check_degree, check_order, check_row, check_two
from evenrows.rows import signs_of


def sums(hands, row, one, other, *, order=1):
    """The sums of an order of the signs of two hands, of all places."""
    check_two(hands, row, one, other)
    check_order(order)
    return sums_of(signs_of(row, one, other), order)


def is_even(hands, row, degree):
    """Whether each two hands of the row are even to the degree."""
    check_row(hands, row)
    check_degree(degree)
    return is_even_to(hands, row, degree)


def evenness(hands, row):
    """The greatest degree to which the row is even, -1 if to none."""
    check_row(hands, row)
    degree = 0
    # This ends: the hand that has the first turn and any other one have signs
    # that are not all 0, and these are even to no degree as great as places.
    while is_even_to(hands, row, degree):
        degree += 1
    return degree - 1


def sums_of(line, order):
    """The sums of an order of any line of numbers."""
    found = list(line)
    for _ in range(order):
        found = running_sums(found)
    return found


def running_sums(line):
    """For each place the sum over all places up to it."""
    total = 0
    found = []
    for number in line:
        total += number
        found.append(total)
    return found


def is_even_to(hands, row, degree):
    """Whether the row is even, where it and any degree are checked already."""
    for other in range(1, hands):
        for one in range(other):
            if not are_signs_even(signs_of(row, one, other), degree):
                return False
    return True


def are_signs_even(line, degree):
    """Whether the last sums of each order from 1 to the degree and 1 are 0."""
    found = line
    for _ in range(degree + 1):
        found = running_sums(found)
        if found[-1] != 0:
            return False
    return True
