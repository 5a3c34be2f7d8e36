"""Cards and purses, what is refused as none, and the purse behind a row of deeds."""

from freerides.errors import NoCards, NoNumber, NoPurse, NoRow, NoStamps

MOST = 10 ** 18
MOST_KINDS = 3
LEAST_FULL = 2
MOST_FULL = 20
MOST_DEEDS = 100
RIDE = "ride"


def is_within(thing, least, most):
    """Tell whether thing is a whole number from least to most."""
    # To Python True and False are integers, but they are no whole numbers here.
    if isinstance(thing, bool) or not isinstance(thing, int):
        return False
    return least <= thing <= most


def are_cards(thing):
    """Tell of anything whether it is cards."""
    if not isinstance(thing, tuple) or not 1 <= len(thing) <= MOST_KINDS:
        return False
    return all([is_within(full, LEAST_FULL, MOST_FULL) for full in thing])


def are_stamps(cards, thing):
    """Tell of anything whether it is stamps such as a purse for these cards has."""
    if not isinstance(thing, tuple) or len(thing) != len(cards):
        return False
    return all([is_within(many, 0, MOST) for many in thing])


def purse_fits(cards, thing):
    """Tell of anything whether it is a purse for what is known to be cards."""
    if not isinstance(thing, tuple) or len(thing) != 2:
        return False
    rides, stamps = thing
    return is_within(rides, 0, MOST) and are_stamps(cards, stamps)


def is_purse(cards, thing):
    """Tell of anything whether it is a purse for these cards."""
    refuse_no_cards(cards)
    return purse_fits(cards, thing)


def is_kind(cards, thing):
    """Tell of anything whether it is the place of a kind of these cards."""
    return is_within(thing, 0, len(cards) - 1)


def is_deed(cards, thing):
    """Tell of anything whether it is a deed: to ride, or to give a full card of a kind."""
    if isinstance(thing, str):
        return thing == RIDE
    return is_kind(cards, thing)


def is_row(cards, thing):
    """Tell of anything whether it is a row of deeds."""
    if not isinstance(thing, list) or len(thing) > MOST_DEEDS:
        return False
    return all([is_deed(cards, deed) for deed in thing])


def refuse_no_cards(thing):
    """Raise NoCards of anything but cards."""
    if not are_cards(thing):
        raise NoCards("cards are a tuple of 1 to 3 whole numbers from 2 to 20")


def refuse_no_purse(cards, thing):
    """Raise NoPurse of anything but a purse for these cards."""
    if not purse_fits(cards, thing):
        raise NoPurse("a purse is a tuple of rides, and a tuple of stamps for each kind, each from 0 to 10 ** 18")


def refuse_no_stamps(cards, thing):
    """Raise NoStamps of anything but stamps such as a purse for these cards has."""
    if not are_stamps(cards, thing):
        raise NoStamps("stamps are a tuple of a whole number from 0 to 10 ** 18 for each kind")


def refuse_no_row(cards, thing):
    """Raise NoRow of anything but a row of deeds."""
    if not is_row(cards, thing):
        raise NoRow("a row is a list of at most 100 deeds, each the text ride or the place of a kind")


def refuse_no_number(thing, least):
    """Raise NoNumber of anything but a whole number from least to the bound of all numbers."""
    if not is_within(thing, least, MOST):
        raise NoNumber(f"a number is a whole number from {least} to 10 ** 18")


def after_ride(purse):
    """Tell the purse behind a ride, None where one has no ride."""
    rides, stamps = purse
    if rides < 1:
        return None
    return (rides - 1, tuple([many + 1 for many in stamps]))


def after_giving(cards, purse, kind):
    """Tell the purse behind giving a full card of the kind, None where the stamps are fewer."""
    rides, stamps = purse
    if stamps[kind] < cards[kind]:
        return None
    fewer = list(stamps)
    fewer[kind] -= cards[kind]
    return (rides + 1, tuple(fewer))


def after_deed(cards, purse, deed):
    """Tell the purse behind one deed, None where it can't be done."""
    if deed == RIDE:
        return after_ride(purse)
    return after_giving(cards, purse, deed)


def behind(cards, purse, row):
    """Tell the purse behind a row of deeds, None where one can't be done when its turn comes."""
    refuse_no_cards(cards)
    refuse_no_purse(cards, purse)
    refuse_no_row(cards, row)
    for deed in row:
        purse = after_deed(cards, purse, deed)
        if purse is None:
            return None
    return purse
