"""Rows mended: by exchanges of two places, or by the fewest turns given to others."""

from itertools import combinations

from evenrows.checks import check_degree, check_lead_order, check_length, check_row, check_two_places
from evenrows.leads import greatest_of
from evenrows.searching import even_rows

MOST_MENDED = 16
MOST_NEAREST_DEGREE = 2
MOST_NEAREST_OF = {2: 12, 3: 8, 4: 6}


def exchanged(hands, row, one, other):
    """The row with the turns of two places exchanged."""
    check_row(hands, row)
    check_two_places(row, one, other)
    return exchange_of(row, one, other)


def mended(hands, row, order):
    """The exchange that mends the row, and the greatest lead then, or None."""
    check_mending(hands, row, order)
    return mend_of(hands, row, order)


def mended_on(hands, row, order):
    """The exchanges that mend the row one behind the other, till none does."""
    check_mending(hands, row, order)
    found = []
    line = row
    mend = mend_of(hands, line, order)
    while mend is not None:
        found.append(mend)
        one, other, _ = mend
        line = exchange_of(line, one, other)
        mend = mend_of(hands, line, order)
    return found


def nearest(hands, row, degree):
    """The even row unlike at the fewest places, and at how many, or None."""
    check_row(hands, row)
    check_degree(degree, most=MOST_NEAREST_DEGREE)
    check_length(len(row), MOST_NEAREST_OF[hands])
    # Of several nearest ones min tells the first.
    found = min(even_rows(hands, len(row), degree), key=lambda near: unlike_places(near, row), default=None)
    if found is None:
        return None
    return (found, unlike_places(found, row))


def check_mending(hands, row, order):
    """Refuse what is no row or order, then a row that is too long to be mended."""
    check_row(hands, row)
    check_lead_order(order)
    check_length(len(row), MOST_MENDED)


def exchange_of(row, one, other):
    """The exchange, of a row and places that are checked already."""
    line = list(row)
    line[one], line[other] = line[other], line[one]
    return tuple(line)


def mend_of(hands, row, order):
    """What mends the row, where all that is handed in is checked already."""
    found = leads_behind(hands, row, order)
    if len(found) == 0:
        return None
    least, one, other = min(found)
    before = greatest_of(hands, row, order, 1)
    if before is not None and least >= before:
        return None
    return (one, other, least)


def leads_behind(hands, row, order):
    """For each exchange behind which there is a greatest lead: that, and both places."""
    found = []
    for one, other in unlike_pairs(row, 0):
        behind = greatest_of(hands, exchange_of(row, one, other), order, 1)
        if behind is not None:
            found.append((behind, one, other))
    return found


def unlike_pairs(row, first):
    """All two places from the first one on that have unlike hands, rising."""
    return [(one, other) for one, other in combinations(range(first, len(row)), 2) if row[one] != row[other]]


def unlike_places(row, other):
    """At how many places two rows, as long as each other, are unlike."""
    return len([1 for turn, other_turn in zip(row, other) if turn != other_turn])
