"""How many rides one has till nothing is left, and how many are wanted to begin with."""

from freerides.cards import refuse_no_cards, refuse_no_number, refuse_no_purse, refuse_no_stamps


def period_of(cards):
    """Tell the least number of rides whose stamps make full cards of each kind, with none over."""
    period = 1
    for full in cards:
        step = period
        while period % full != 0:
            period += step
    return period


def full_cards(cards, stamps, ridden):
    """Tell how many full cards the stamps make, with those of so many rides."""
    return sum([(many + ridden) // full for full, many in zip(cards, stamps)])


def period_pays(cards):
    """Tell whether a period's stamps make as many full cards as it has rides, or more."""
    period = period_of(cards)
    return sum([period // full for full in cards]) >= period


def rides_in_all(cards, purse):
    """Tell how many rides one has, of a purse of any size, None where it never ends."""
    rides, stamps = purse
    pays = period_pays(cards)
    period = period_of(cards)
    had = 0
    paid = rides + full_cards(cards, stamps, had)
    while paid > had:
        # Where a period pays for itself, one who can ride a whole one can ride each that follows.
        if pays and paid >= period:
            return None
        had = paid
        paid = rides + full_cards(cards, stamps, had)
    return had


def rides_wanted(cards, stamps, first, end):
    """Tell the least number to begin with for a ride more behind any number ridden from first to ahead of end."""
    wanted = 0
    for ridden in range(first, end):
        wanted = max(wanted, ridden + 1 - full_cards(cards, stamps, ridden))
    return wanted


def all_rides(cards, purse):
    """Tell how many rides one has till nothing is left, None where it never ends."""
    refuse_no_cards(cards)
    refuse_no_purse(cards, purse)
    return rides_in_all(cards, purse)


def left(cards, purse):
    """Tell what stamps are left in the end, None where it never ends."""
    refuse_no_cards(cards)
    refuse_no_purse(cards, purse)
    had = rides_in_all(cards, purse)
    if had is None:
        return None
    return tuple([(many + had) % full for full, many in zip(cards, purse[1])])


def least_endless(cards, stamps):
    """Tell the least number of rides to begin with so that it never ends, None where it always ends."""
    refuse_no_cards(cards)
    refuse_no_stamps(cards, stamps)
    if not period_pays(cards):
        return None
    return rides_wanted(cards, stamps, 0, period_of(cards))


def least_rides(cards, stamps, number):
    """Tell the least number of rides to begin with so that one has at least so many, or never ends."""
    refuse_no_cards(cards)
    refuse_no_stamps(cards, stamps)
    refuse_no_number(number, 0)
    period = period_of(cards)
    # Where a period pays, the later ones want no more than the first; else each wants more than the one ahead of it.
    if period_pays(cards):
        return rides_wanted(cards, stamps, 0, min(number, period))
    return rides_wanted(cards, stamps, max(0, number - period), number)
