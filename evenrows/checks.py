"""What the calls of the interface ask of what they are handed.

The messages are fixed: to show what was handed in could itself fail, as it
does for a whole number of some thousand digits.
"""

from evenrows.errors import NoDegree, NoHand, NoHands, NoOrder, NoRow, NoWorths

FEWEST_HANDS = 2
MOST_HANDS = 4
MOST_PLACES = 64
MOST_ORDER = 9
MOST_DEGREE = 9


def is_whole(thing):
    """Whether the thing is a whole number, as True and False are not."""
    return isinstance(thing, int) and not isinstance(thing, bool)


def is_from_to(thing, least, most):
    """Whether the thing is a whole number from the least to the most."""
    return is_whole(thing) and least <= thing <= most


def is_hand(hands, thing):
    """Whether the thing is one of so many hands."""
    return is_from_to(thing, 0, hands - 1)


def fits_row(hands, thing):
    """Whether the thing is a row of so many hands, which are checked already."""
    if not isinstance(thing, tuple):
        return False
    if not 1 <= len(thing) <= MOST_PLACES:
        return False
    return all([is_hand(hands, turn) for turn in thing])


def check_hands(hands):
    """Refuse what is no number of hands."""
    if not is_from_to(hands, FEWEST_HANDS, MOST_HANDS):
        raise NoHands("hands are a whole number from 2 to 4")


def check_row(hands, row):
    """Refuse what are no hands, then what is no row of them."""
    check_hands(hands)
    if not fits_row(hands, row):
        raise NoRow("a row is a tuple of 1 to 64 of the hands")


def check_two(hands, row, one, other):
    """Refuse what is no row of hands, then what are no two hands of it."""
    check_row(hands, row)
    if not is_hand(hands, one) or not is_hand(hands, other):
        raise NoHand("a hand is a whole number from 0 on, below the hands")
    if one == other:
        raise NoHand("the two hands are not alike")


def check_worths(worths):
    """Refuse what is no tuple of whole numbers, one at least."""
    if not isinstance(worths, tuple) or len(worths) == 0:
        raise NoWorths("worths are a tuple, and not an empty one")
    if not all([is_whole(worth) for worth in worths]):
        raise NoWorths("worths are whole numbers")


def check_worths_of(row, worths):
    """Refuse what are no worths for the places of the row, one for each."""
    check_worths(worths)
    if len(worths) != len(row):
        raise NoWorths("worths are as many as places")


def check_order(order):
    """Refuse what is no order of differences or sums."""
    if not is_from_to(order, 0, MOST_ORDER):
        raise NoOrder("an order is a whole number from 0 to 9")


def check_degree(degree):
    """Refuse what is no degree of smooth worths or even rows."""
    if not is_from_to(degree, 0, MOST_DEGREE):
        raise NoDegree("a degree is a whole number from 0 to 9")
