"""What the calls of the interface ask of what they are handed.

The messages show nothing that was handed in: to show it could itself fail, as
it does for a whole number of some thousand digits.
"""

from evenrows.errors import NoBound, NoDegree, NoHand, NoHands, NoOrder, NoPlaces, NoRow, NoWorths, TooLong

FEWEST_HANDS = 2
MOST_HANDS = 4
MOST_PLACES = 64
MOST_ORDER = 9
MOST_DEGREE = 9
MOST_LEAD_ORDER = 4
MOST_BOUND = 99


def is_whole(thing):
    """Whether the thing is a whole number, as True and False are not."""
    return isinstance(thing, int) and not isinstance(thing, bool)


def is_from_to(thing, least, most):
    """Whether the thing is a whole number from the least to the most."""
    return is_whole(thing) and least <= thing <= most


def is_hand(hands, thing):
    """Whether the thing is one of so many hands."""
    return is_from_to(thing, 0, hands - 1)


def fits_row(hands, thing):
    """Whether the thing is a row of so many hands, which are checked already."""
    if not isinstance(thing, tuple):
        return False
    if not 1 <= len(thing) <= MOST_PLACES:
        return False
    return all([is_hand(hands, turn) for turn in thing])


def check_hands(hands):
    """Refuse what is no number of hands."""
    if not is_from_to(hands, FEWEST_HANDS, MOST_HANDS):
        raise NoHands("hands are a whole number from 2 to 4")


def check_row(hands, row):
    """Refuse what are no hands, then what is no row of them."""
    check_hands(hands)
    if not fits_row(hands, row):
        raise NoRow("a row is a tuple of 1 to 64 of the hands")


def check_two(hands, row, one, other):
    """Refuse what is no row of hands, then what are no two hands of it."""
    check_row(hands, row)
    check_two_hands(hands, one, other)


def check_two_hands(hands, one, other):
    """Refuse what are no two of the hands, which are checked already."""
    if not is_hand(hands, one) or not is_hand(hands, other):
        raise NoHand("a hand is a whole number from 0 on, below the hands")
    if one == other:
        raise NoHand("the two hands are not alike")


def check_worths(worths):
    """Refuse what is no tuple of whole numbers, one at least."""
    if not isinstance(worths, tuple) or len(worths) == 0:
        raise NoWorths("worths are a tuple, and not an empty one")
    if not all([is_whole(worth) for worth in worths]):
        raise NoWorths("worths are whole numbers")


def check_worths_of(row, worths):
    """Refuse what are no worths for the places of the row, one for each."""
    check_worths(worths)
    if len(worths) != len(row):
        raise NoWorths("worths are as many as places")


def check_worth(worth):
    """Refuse what is no single worth."""
    if not is_whole(worth):
        raise NoWorths("a worth is a whole number")


def check_order(order):
    """Refuse what is no order of differences or sums."""
    if not is_from_to(order, 0, MOST_ORDER):
        raise NoOrder("an order is a whole number from 0 to 9")


def check_lead_order(order):
    """Refuse what is no order of greatest leads."""
    if not is_from_to(order, 1, MOST_LEAD_ORDER):
        raise NoOrder("an order of leads is a whole number from 1 to 4")


def check_order_of(told, order):
    """Refuse what is no order of leads, or one above how many worths are told."""
    check_lead_order(order)
    if order > len(told):
        raise NoOrder("an order is not above how many worths are told")


def check_bound(bound):
    """Refuse what is no bound of differences."""
    if not is_from_to(bound, 0, MOST_BOUND):
        raise NoBound("a bound is a whole number from 0 to 99")


def check_degree(degree, *, most=MOST_DEGREE):
    """Refuse what is no degree of smooth worths or even rows, up to the most."""
    if not is_from_to(degree, 0, most):
        raise NoDegree(f"a degree is a whole number from 0 to {most}")


def check_names(hands, names):
    """Refuse what is no tuple of all hands, each of them once."""
    if not isinstance(names, tuple) or len(names) != hands:
        raise NoHand("names are a tuple, as many as hands")
    if not all([is_hand(hands, name) for name in names]):
        raise NoHand("each name is a hand")
    if sorted(names) != list(range(hands)):
        raise NoHand("names are all hands, each once")


def check_places(places, most, *, least=1):
    """Refuse what is no number of places from the least to the most."""
    if not is_from_to(places, least, most):
        raise NoPlaces(f"places are a whole number from {least} to {most}")


def check_two_places(row, one, other):
    """Refuse what are no two places of the row, which is checked already."""
    last = len(row) - 1
    if not is_from_to(one, 0, last) or not is_from_to(other, 0, last):
        raise NoPlaces("a place is a whole number from 0 on, below the row's places")
    if one == other:
        raise NoPlaces("the two places are not alike")


def check_length(places, most):
    """Refuse more places than the most."""
    if places > most:
        raise TooLong(f"there are at most {most} places")


def check_going_on(worths, places, order):
    """Refuse what are no worths, then places and an order they do not go on by."""
    check_worths(worths)
    check_places(places, MOST_PLACES, least=len(worths))
    check_order_of(worths, order)


def check_foreseeing(row, told, order, bound):
    """Refuse what are no worths told of the row, then an order or a bound of none."""
    check_worths(told)
    if len(told) > len(row):
        raise NoWorths("no more worths are told than there are places")
    check_order_of(told, order)
    check_bound(bound)
