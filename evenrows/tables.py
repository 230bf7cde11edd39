"""A table over many turns, whose calls can be taken back."""

from evenrows.checks import check_bound, check_order_of, check_row, check_two_hands, check_two_places, check_worth
from evenrows.errors import Done, Nothing
from evenrows.foreseeing import foreseen_of
from evenrows.mending import exchange_of
from evenrows.rows import totals_of
from evenrows.texts import letters_of


class Table:
    """A row, and the worths told of its places, from the first one on."""

    def __init__(self, hands, row):
        check_row(hands, row)
        self._hands = hands
        self._turns = list(row)
        self._told = []
        # Each call not taken back yet, as its name and the places it exchanged.
        self._calls = []

    def tell(self, worth):
        """Tell the next place's worth, and tell the hand that gets it."""
        hand = self.next()
        if hand is None:
            raise Done("all places are through")
        check_worth(worth)
        self._told.append(worth)
        self._calls.append(("tell", ()))
        return hand

    def exchange(self, one, other):
        """Exchange the turns of two places not yet taken."""
        check_two_places(self._turns, one, other)
        if min(one, other) < len(self._told):
            raise Done("one of the places is taken")
        self._turns = list(exchange_of(self._turns, one, other))
        self._calls.append(("exchange", (one, other)))

    def totals(self):
        """What each hand has."""
        return totals_of(self._hands, self._turns, self._told)

    def worths(self):
        """The worths told."""
        return list(self._told)

    def row(self):
        """The row as it is now."""
        return tuple(self._turns)

    def next(self):
        """The hand whose turn it is, None where all are through."""
        if len(self._told) == len(self._turns):
            return None
        return self._turns[len(self._told)]

    def most(self):
        """The greatest lead that a hand has now of another one."""
        found = self.totals()
        return max(found) - min(found)

    def foresee(self, one, other, order, *, bound=1):
        """The least and the greatest lead that the one hand can still have of the other."""
        check_two_hands(self._hands, one, other)
        check_order_of(self._told, order)
        check_bound(bound)
        return foreseen_of(self._turns, self._told, one, other, order, bound)

    def back(self):
        """Take back the last call that is not taken back yet, and tell its name."""
        if len(self._calls) == 0:
            raise Nothing("there is no call to take back")
        name, places = self._calls.pop()
        if name == "tell":
            self._told.pop()
        else:
            self._turns = list(exchange_of(self._turns, places[0], places[1]))
        return name

    def twin(self):
        """Another table that is as this one, and has no call to take back."""
        other = Table(self._hands, self.row())
        other._told = self.worths()
        return other

    def __eq__(self, other):
        if not isinstance(other, Table):
            return False
        return self._hands == other._hands and self._turns == other._turns and self._told == other._told

    def __len__(self):
        return len(self._told)

    def __str__(self):
        return str(letters_of(self._turns))
