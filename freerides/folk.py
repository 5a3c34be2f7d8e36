"""How many rides folk have, each by themselves and together."""

from freerides.cards import purse_fits, refuse_no_cards
from freerides.errors import NoPurses
from freerides.rides import rides_in_all

MOST_PURSES = 8


def are_purses(cards, thing):
    """Tell of anything whether it is a tuple of 1 to 8 purses for these cards."""
    if not isinstance(thing, tuple) or not 1 <= len(thing) <= MOST_PURSES:
        return False
    return all([purse_fits(cards, purse) for purse in thing])


def refuse_no_purses(cards, thing):
    """Raise NoPurses of anything but a tuple of purses for these cards."""
    if not are_purses(cards, thing):
        raise NoPurses("purses are a tuple of 1 to 8 purses for the cards")


def put_together(cards, purses):
    """Tell the purse with all rides and stamps, which may have more than a purse's bound."""
    rides = sum([purse[0] for purse in purses])
    stamps = [sum([purse[1][kind] for purse in purses]) for kind in range(len(cards))]
    return (rides, tuple(stamps))


def apart(cards, purses):
    """Tell how many rides folk have if each goes by themselves, None where somebody's never end."""
    refuse_no_cards(cards)
    refuse_no_purses(cards, purses)
    total = 0
    for purse in purses:
        had = rides_in_all(cards, purse)
        if had is None:
            return None
        total += had
    return total


def together(cards, purses):
    """Tell how many rides folk have who put all together at first, None where it never ends."""
    refuse_no_cards(cards)
    refuse_no_purses(cards, purses)
    return rides_in_all(cards, put_together(cards, purses))
