"""Rows of turns, and what the hands have at told worths."""

from evenrows.checks import check_hands, check_row, check_two, check_worths_of, fits_row


def is_row(hands, thing):
    """Whether the thing is a row of so many hands."""
    check_hands(hands)
    return fits_row(hands, thing)


def signs(hands, row, one, other):
    """The signs of two hands in a row, place by place."""
    check_two(hands, row, one, other)
    return signs_of(row, one, other)


def totals(hands, row, worths):
    """What each hand has at the worths."""
    check_row(hands, row)
    check_worths_of(row, worths)
    return totals_of(hands, row, worths)


def lead(hands, row, one, other, worths):
    """How much the one hand has more than the other one at the worths."""
    check_two(hands, row, one, other)
    check_worths_of(row, worths)
    found = totals_of(hands, row, worths)
    return found[one] - found[other]


def signs_of(row, one, other):
    """The signs, of a row and two hands that are checked already."""
    return [sign_of(turn, one, other) for turn in row]


def sign_of(turn, one, other):
    """The sign of a single turn."""
    if turn == one:
        return 1
    if turn == other:
        return -1
    return 0


def totals_of(hands, row, worths):
    """The totals, of a row and worths that are checked already."""
    found = [0] * hands
    for turn, worth in zip(row, worths):
        found[turn] += worth
    return found
