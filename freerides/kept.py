"""A purse that is kept as rides are had, cards given, loans taken and paid back."""

from freerides.cards import after_giving, after_ride, is_kind, refuse_no_cards, refuse_no_number, refuse_no_purse
from freerides.errors import NoKind, NoLoan, NoRide, NothingLeft, TooFew
from freerides.rides import rides_in_all


class Kept:
    """A kept purse, with the rides ridden and lent, and all deeds that can be taken back."""

    def __init__(self, cards, purse):
        refuse_no_cards(cards)
        refuse_no_purse(cards, purse)
        self.cards = cards
        # Each state is (purse, ridden, lent), the last one that of now: a deed is taken back by dropping it.
        self.states = [(purse, 0, 0)]

    def __len__(self):
        return len(self.cards)

    def __eq__(self, other):
        if not isinstance(other, Kept):
            return False
        return self.cards == other.cards and self.states[-1] == other.states[-1]

    def ride(self):
        """Ride once."""
        held, ridden, lent = self.states[-1]
        after = after_ride(held)
        if after is None:
            raise NoRide("one has no ride")
        self.states.append((after, ridden + 1, lent))

    def give(self, kind):
        """Give a full card of the kind for a ride."""
        if not is_kind(self.cards, kind):
            raise NoKind("a kind is called by its place, from 0 on")
        held, ridden, lent = self.states[-1]
        after = after_giving(self.cards, held, kind)
        if after is None:
            raise TooFew(kind)
        self.states.append((after, ridden, lent))

    def lend(self, number):
        """Have so many rides lent."""
        refuse_no_number(number, 1)
        (rides, stamps), ridden, lent = self.states[-1]
        self.states.append(((rides + number, stamps), ridden, lent + number))

    def pay(self, number):
        """Give so many lent rides back."""
        refuse_no_number(number, 1)
        (rides, stamps), ridden, lent = self.states[-1]
        if lent < number:
            raise NoLoan("so many rides are not lent")
        if rides < number:
            raise NoRide("one has fewer rides than are to be given back")
        self.states.append(((rides - number, stamps), ridden, lent - number))

    def back(self):
        """Take back what was done last."""
        if len(self.states) == 1:
            raise NothingLeft("nothing was done that is not taken back")
        self.states.pop()

    def purse(self):
        """Tell the purse one has now."""
        return self.states[-1][0]

    def ridden(self):
        """Tell how many rides were ridden."""
        return self.states[-1][1]

    def lent(self):
        """Tell how many rides are lent now."""
        return self.states[-1][2]

    def still(self):
        """Tell how many rides one would still have, giving none back, None where it never ends."""
        return rides_in_all(self.cards, self.states[-1][0])
