"""What several tests need: plain searches to compare with, small cases, and things that are none."""

import itertools
import random

MOST = 10 ** 18

# Kinds whose rides pay for themselves, or more, and kinds whose don't, by one, two and three kinds.
PAYING = [(2, 2), (2, 2, 2), (2, 2, 20), (20, 2, 2), (3, 3, 3), (2, 4, 4), (2, 3, 6), (6, 3, 2), (2, 3, 5), (3, 2, 3)]
ENDING = [(2,), (3,), (20,), (2, 3), (3, 2), (3, 3), (20, 20), (2, 3, 7), (7, 2, 3), (3, 3, 4), (2, 5, 5), (4, 6, 9)]


def whole_things():
    """Things that are neither cards, a purse, stamps, a row, a number, purses nor seen, whatever the cards."""
    deep = 3
    for _ in range(9):
        deep = (deep,)
    deep_list = "ride"
    for _ in range(9):
        deep_list = [deep_list]
    return [
        True, False, None, "", "ride", "3", "~ " * 50, -1, MOST + 1, 10 ** 39, -(10 ** 39),
        (), (None,), ("3",), (True,), (False,), ((3,),), ([3],), (-1,), (MOST + 1,), (10 ** 39,),
        [3], [None], [True], [False], ["Ride"], ["ride", "rides"], [[0]], [(0,)], [-1], [""],
        deep, deep_list, (3,) * 100, [3] * 100, ["ride"] * 101,
    ]


def small_purses(cards, rides, stamps):
    """All purses with at most so many rides, and so many stamps of each kind."""
    for had in range(rides + 1):
        for row in itertools.product(range(stamps + 1), repeat=len(cards)):
            yield (had, row)


def deeds_of(cards, purse):
    """The deeds that can be done now."""
    rides, stamps = purse
    deeds = ["ride"] if rides else []
    return deeds + [kind for kind, full in enumerate(cards) if stamps[kind] >= full]


def done(cards, purse, deed):
    """The purse behind one deed that can be done."""
    rides, stamps = purse
    if deed == "ride":
        return (rides - 1, tuple(many + 1 for many in stamps))
    return (rides + 1, tuple(many - cards[kind] * (kind == deed) for kind, many in enumerate(stamps)))


def do(kept, deed):
    """Ride, or give a card of the kind, of a kept purse."""
    if deed == "ride":
        kept.ride()
    else:
        kept.give(deed)


def flat(purse):
    """The rides and stamps of a purse in one row."""
    return (purse[0],) + purse[1]


def in_order(cards, purse, choose):
    """The rides ridden and the stamps left, doing what choose takes of the deeds; (None, None) if it never ends."""
    before = [flat(purse)]
    ridden = 0
    while deeds := deeds_of(cards, purse):
        deed = choose(deeds)
        purse = done(cards, purse, deed)
        ridden += deed == "ride"
        # With no less than some time ahead, the deeds done since then can be done over and over.
        if any(all(now >= then for now, then in zip(flat(purse), earlier)) for earlier in before):
            return (None, None)
        before.append(flat(purse))
    return (ridden, purse[1])


def ride_first(deeds):
    """Ride where one can, else give a card of the first kind one can."""
    return deeds[0]


def orders():
    """Ways to choose a deed: ride first, give first, and by chance from fixed seeds."""
    return [
        ride_first,
        lambda deeds: deeds[-1],
        lambda deeds: deeds[len(deeds) // 2],
        random.Random(1).choice,
        random.Random(2).choice,
    ]


def all_states(cards, purse, bound):
    """All (ridden, purse) that any order of deeds comes by, within so many rides."""
    seen = {(0, purse)}
    todo = [(0, purse)]
    while todo:
        ridden, now = todo.pop()
        for deed in deeds_of(cards, now):
            step = (ridden + (deed == "ride"), done(cards, now, deed))
            if step[0] <= bound and step not in seen:
                seen.add(step)
                todo.append(step)
    return seen


def all_ends(cards, purse, bound):
    """All (ridden, stamps left) that any order of deeds ends with, within so many rides."""
    states = all_states(cards, purse, bound)
    return {(ridden, now[1]) for ridden, now in states if not deeds_of(cards, now)}


def had_with_loan(cards, purse, loan, bound):
    """All numbers of rides within the bound that some order of deeds has with the loan, and can give it back then."""
    states = all_states(cards, (purse[0] + loan, purse[1]), bound)
    return {ridden for ridden, now in states if now[0] >= loan}


def paid(cards, purse, ridden):
    """The rides to begin with, and those for the full cards that all stamps of so many rides make."""
    return purse[0] + sum((many + ridden) // full for full, many in zip(cards, purse[1]))


def some_purses(cards, chance):
    """Small and great purses for the cards."""
    for most in (3, 25, 10 ** 6, MOST - 1):
        for _ in range(3):
            yield (chance.randint(0, most), tuple(chance.randint(0, most) for _ in cards))


def at_least(more, fewer):
    """Whether more rides are no fewer, where None is without end."""
    return more is None or (fewer is not None and more >= fewer)
