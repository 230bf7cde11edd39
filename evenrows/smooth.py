"""How smooth worths are."""

from evenrows.checks import check_degree, check_order, check_worths


def differences(worths, *, order=1):
    """The differences of the worths of an order."""
    check_worths(worths)
    check_order(order)
    return differences_of(worths, order)


def is_smooth(worths, degree):
    """Whether the worths are smooth to the degree."""
    check_worths(worths)
    check_degree(degree)
    return all([gap == 0 for gap in differences_of(worths, degree + 1)])


def differences_of(worths, order):
    """The differences, of worths and any order that are checked already."""
    line = list(worths)
    for _ in range(order):
        line = [after - before for before, after in zip(line, line[1:])]
    return line
