"""The refusals: what is told of arguments that are none, and of deeds that can't be done."""


class RideError(ValueError):
    """Any refusal."""


class NoCards(RideError):
    """What was handed in is no cards."""


class NoPurse(RideError):
    """What was handed in is no purse for the cards."""


class NoStamps(RideError):
    """What was handed in is no stamps such as a purse for the cards has."""


class NoRow(RideError):
    """What was handed in is no row of deeds for the cards."""


class NoNumber(RideError):
    """What was handed in is no number within the bounds."""


class NoPurses(RideError):
    """What was handed in is no tuple of purses for the cards."""


class NoSeen(RideError):
    """What was handed in is nothing that can have been seen."""


class NoRide(RideError):
    """One has no ride, or fewer than are to be given back."""


class NoKind(RideError):
    """What was handed in is no kind of the cards."""


class NoLoan(RideError):
    """So many rides as are to be given back are not lent."""


class NothingLeft(RideError):
    """There is no deed left to take back."""


class TooFew(RideError):
    """The stamps of a kind are fewer than its full card has."""

    def __init__(self, kind):
        super().__init__(f"too few stamps for a full card of kind {kind}")
        self.kind = kind
