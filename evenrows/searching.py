"""The shortest and the calmest even rows, and all of so many places."""

from evenrows.checks import check_degree, check_hands, check_lead_order, check_places
from evenrows.leads import greatest_of
from evenrows.sums import is_even_to

MOST_DEGREE_OF = {2: 3, 3: 1, 4: 1}
MOST_PLACES_OF = {2: 10, 3: 6, 4: 5}


def shortest(hands, degree):
    """The row even to the degree with fewest places, of several the first."""
    check_hands(hands)
    check_degree(degree, most=MOST_DEGREE_OF[hands])
    places = hands
    found = even_rows(hands, places, degree)
    while len(found) == 0:
        places += hands
        found = even_rows(hands, places, degree)
    return found[0]


def calmest(hands, places, order):
    """The first row with the least greatest lead of the order, None where none has one."""
    check_hands(hands)
    check_places(places, MOST_PLACES_OF[hands])
    check_lead_order(order)
    # Just these have a greatest lead, and of several least ones min tells the first.
    found = even_rows(hands, places, order - 1)
    return min(found, key=lambda row: greatest_of(hands, row, order, 1), default=None)


def even_rows(hands, places, degree):
    """All rows of so many places that are even to the degree, rising."""
    return [row for row in balanced_rows(hands, places) if is_even_to(hands, row, degree)]


def balanced_rows(hands, places):
    """All rows of so many places in which all hands have as many turns, rising."""
    # No other row is even to any degree, and these are far fewer than all.
    share = places // hands
    if share * hands != places:
        return []
    found = [()]
    for _ in range(places):
        found = [(*row, hand) for row in found for hand in range(hands) if row.count(hand) < share]
    return found
