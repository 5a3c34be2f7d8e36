"""How many rides one can have with a loan that is paid back in the end, and with how small a one."""

from freerides.cards import refuse_no_cards, refuse_no_number, refuse_no_purse
from freerides.rides import full_cards, least_rides, period_of, period_pays


def pays_back(cards, purse, number):
    """Tell whether so many rides are no more than those one had at first, and those for all full cards."""
    rides, stamps = purse
    return number <= rides + full_cards(cards, stamps, number)


def most_by_shares(cards, purse):
    """Tell how many rides would pay for themselves if each stamp alone gave its share of a ride."""
    rides, stamps = purse
    period = period_of(cards)
    shares = [period // full for full in cards]
    worth = rides * period + sum([many * share for many, share in zip(stamps, shares)])
    return worth // (period - sum(shares))


def greatest(cards, purse):
    """Tell the greatest number of rides one can have with some loan, None where there is no greatest."""
    refuse_no_cards(cards)
    refuse_no_purse(cards, purse)
    if period_pays(cards):
        return None
    # Full cards give no more than the shares of all stamps, and fewer by less than a ride for each kind.
    number = most_by_shares(cards, purse)
    while not pays_back(cards, purse, number):
        number -= 1
    return number


def can_have(cards, purse, number):
    """Tell whether one can have just so many rides with some loan."""
    refuse_no_cards(cards)
    refuse_no_purse(cards, purse)
    refuse_no_number(number, 0)
    return pays_back(cards, purse, number)


def least_loan(cards, purse, number):
    """Tell the least loan with which one can have just so many rides, None where none does."""
    refuse_no_cards(cards)
    refuse_no_purse(cards, purse)
    refuse_no_number(number, 0)
    if not pays_back(cards, purse, number):
        return None
    rides, stamps = purse
    return max(0, least_rides(cards, stamps, number) - rides)
