"""Rows counted, and the moments by which they are even."""

from evenrows.checks import check_degree, check_hands, check_lead_order, check_places, check_row
from evenrows.leads import greatest_of
from evenrows.rows import totals_of
from evenrows.searching import MOST_PLACES_OF, even_rows

MOST_COUNTED_DEGREE = 3
MOST_COUNTED_OF = {2: 12, 3: 8, 4: 6}


def moments(hands, row, degree):
    """For each hand the sums of the powers of its places, from 0 to the degree."""
    check_row(hands, row)
    check_degree(degree)
    found = []
    # To the power 0 all places have 1, place 0 too.
    powers = [1] * len(row)
    for _ in range(degree + 1):
        found.append(totals_of(hands, row, powers))
        powers = [place * power for place, power in enumerate(powers)]
    return [[total[hand] for total in found] for hand in range(hands)]


def counted(hands, places, degree):
    """How many rows of so many places are even to the degree."""
    check_hands(hands)
    check_places(places, MOST_COUNTED_OF[hands])
    check_degree(degree, most=MOST_COUNTED_DEGREE)
    return len(even_rows(hands, places, degree))


def spread(hands, places, order):
    """The greatest leads of all rows that have one, each with how many have it."""
    check_hands(hands)
    check_places(places, MOST_PLACES_OF[hands])
    check_lead_order(order)
    found = {}
    # Just these have a greatest lead.
    for row in even_rows(hands, places, order - 1):
        lead = greatest_of(hands, row, order, 1)
        found[lead] = found.get(lead, 0) + 1
    return [(lead, found[lead]) for lead in sorted(found)]
