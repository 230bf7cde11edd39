"""What is raised where something is refused."""


class TurnError(ValueError):
    """Any refusal."""


class NoHands(TurnError):
    """The hands are none that the call takes."""


class NoRow(TurnError):
    """The row is none of so many hands."""


class NoHand(TurnError):
    """A hand is none of the row, or both hands are alike."""


class NoWorths(TurnError):
    """The worths are no tuple of as many whole numbers as the call takes."""


class NoOrder(TurnError):
    """The order is none that the call takes."""


class NoBound(TurnError):
    """The bound is none that the call takes."""


class NotEven(TurnError):
    """The hands are not even so far that there is a greatest lead."""


class TooLong(TurnError):
    """The row has, or would have, more places than the call takes."""


class NoDegree(TurnError):
    """The degree is none that the call takes."""


class NoPlaces(TurnError):
    """The places are none that the call takes."""


class NoText(TurnError):
    """The text is none of a row or of worths."""


class Done(TurnError):
    """The places are through, or one of them is taken already."""


class Nothing(TurnError):
    """There is no call to take back."""
