"""Which kinds of cards fit what others are known to have had."""

from freerides.cards import LEAST_FULL, MOST, is_within
from freerides.errors import NoSeen
from freerides.rides import rides_in_all

MOST_PAIRS = 20
MOST_BEGUN = 1000
MOST_FITTING = 12


def is_pair(thing):
    """Tell of anything whether it is a pair of rides to begin with, and rides had in all or None."""
    if not isinstance(thing, tuple) or len(thing) != 2:
        return False
    rides, had = thing
    return is_within(rides, 0, MOST_BEGUN) and (had is None or is_within(had, 0, MOST))


def is_seen(thing):
    """Tell of anything whether it can have been seen."""
    if not isinstance(thing, tuple) or not 1 <= len(thing) <= MOST_PAIRS:
        return False
    return all([is_pair(pair) for pair in thing])


def refuse_no_seen(thing):
    """Raise NoSeen of anything that can't have been seen."""
    if not is_seen(thing):
        raise NoSeen("seen is a tuple of 1 to 20 pairs of rides to begin with, from 0 to 1000, and rides had or None")


def cards_to_try():
    """List all cards that may be told, rising."""
    tried = []
    for first in range(LEAST_FULL, MOST_FITTING + 1):
        tried.append((first,))
        for second in range(first, MOST_FITTING + 1):
            tried.append((first, second))
            for third in range(second, MOST_FITTING + 1):
                tried.append((first, second, third))
    return tried


def fit_pair(cards, pair):
    """Tell whether one who began with so many rides and no stamps has as many with these cards."""
    rides, had = pair
    return rides_in_all(cards, (rides, (0,) * len(cards))) == had


def fit_all(cards, seen):
    """Tell whether the cards fit each pair that was seen."""
    for pair in seen:
        if not fit_pair(cards, pair):
            return False
    return True


def fits(seen):
    """List all cards that fit what was seen, rising."""
    refuse_no_seen(seen)
    return [cards for cards in cards_to_try() if fit_all(cards, seen)]
