"""Rows made of rows."""

from evenrows.checks import MOST_PLACES, check_length, check_names, check_row


def put_into(hands, row, other):
    """The row put into the other one: once for each turn of it, moved on by that."""
    check_row(hands, row)
    check_row(hands, other)
    check_length(len(row) * len(other), MOST_PLACES)
    return tuple([(turn + step) % hands for step in other for turn in row])


def joined(hands, row, other):
    """The row, and the other one behind it."""
    check_row(hands, row)
    check_row(hands, other)
    check_length(len(row) + len(other), MOST_PLACES)
    return (*row, *other)


def turned(hands, row):
    """The row turned round, the last turn first."""
    check_row(hands, row)
    return row[::-1]


def named(hands, row, names):
    """The row with each hand named anew, by what names have at its number."""
    check_row(hands, row)
    check_names(hands, names)
    return tuple([names[turn] for turn in row])
