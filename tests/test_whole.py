"""Promises 1 and 3, as far as cards and rides go: the whole holds together."""

import itertools
import random
import unittest

from freerides.cards import behind
from freerides.rides import all_rides, least_endless, least_rides, left
from tests.helper import ENDING, MOST, PAYING, at_least, deeds_of, small_purses


def some_purses(cards, chance):
    """Small and great purses for the cards."""
    for most in (3, 25, 10 ** 6, MOST - 1):
        for _ in range(3):
            yield (chance.randint(0, most), tuple(chance.randint(0, most) for _ in cards))


def more_by_one(purse):
    """The purses with one ride, or one stamp of a kind, more."""
    rides, stamps = purse
    yield (rides + 1, stamps)
    for kind in range(len(stamps)):
        yield (rides, stamps[:kind] + (stamps[kind] + 1,) + stamps[kind + 1:])


class TheWhole(unittest.TestCase):
    def test_whatever_is_done_first(self):
        for cards in PAYING + ENDING:
            for purse in small_purses(cards, 3, 3):
                for deed in deeds_of(cards, purse):
                    self.check_deed(cards, purse, deed)

    def test_whatever_is_done_first_of_great_purses(self):
        chance = random.Random(3)
        for cards in PAYING + ENDING:
            for purse in some_purses(cards, chance):
                for deed in deeds_of(cards, purse):
                    self.check_deed(cards, purse, deed)

    def check_deed(self, cards, purse, deed):
        """A ride done first is one of those told, a card given first changes nothing; the same is left."""
        rides = all_rides(cards, purse)
        now = behind(cards, purse, [deed])
        self.assertEqual(left(cards, now), left(cards, purse), (cards, purse, deed))
        if rides is None:
            self.assertIsNone(all_rides(cards, now), (cards, purse, deed))
        else:
            self.assertEqual(all_rides(cards, now) + (deed == "ride"), rides, (cards, purse, deed))

    def test_a_row_till_nothing_can_be_done(self):
        chance = random.Random(33)
        for cards in ENDING:
            purse = (1, tuple(chance.randint(0, 2) for _ in cards))
            row = []
            while len(row) < 100 and (deeds := deeds_of(cards, behind(cards, purse, row))):
                row.append(chance.choice(deeds))
            self.assertLess(len(row), 100, (cards, purse))
            self.assertEqual(row.count("ride"), all_rides(cards, purse), (cards, purse))
            self.assertEqual(behind(cards, purse, row), (0, left(cards, purse)), (cards, purse))

    def test_what_is_left_makes_no_full_card(self):
        chance = random.Random(4)
        for cards in ENDING:
            for purse in some_purses(cards, chance):
                over = left(cards, purse)
                self.assertTrue(all(0 <= many < full for full, many in zip(cards, over)), (cards, purse))
                self.assertEqual(all_rides(cards, (0, over)), 0)

    def test_one_more_to_begin_with_never_brings_fewer(self):
        chance = random.Random(5)
        for cards in PAYING + ENDING:
            for purse in itertools.chain(small_purses(cards, 3, 2), some_purses(cards, chance)):
                rides = all_rides(cards, purse)
                for more in more_by_one(purse):
                    self.assertTrue(at_least(all_rides(cards, more), rides), (cards, purse, more))

    def test_a_card_with_more_stamps_never_brings_more(self):
        chance = random.Random(8)
        for cards in PAYING + ENDING:
            for kind in range(len(cards)):
                greater = cards[:kind] + (min(20, cards[kind] + 1),) + cards[kind + 1:]
                for purse in itertools.chain(small_purses(cards, 3, 2), some_purses(cards, chance)):
                    told = at_least(all_rides(cards, purse), all_rides(greater, purse))
                    self.assertTrue(told, (cards, greater, purse))

    def test_kinds_may_stand_in_another_order(self):
        for cards, purse in [((2, 3, 7), (9, (1, 2, 3))), ((2, 2, 5), (1, (1, 0, 4))), ((4, 6, 9), (MOST, (7, 8, 9)))]:
            for places in itertools.permutations(range(3)):
                turned = tuple(cards[place] for place in places)
                stamps = tuple(purse[1][place] for place in places)
                self.assertEqual(all_rides(turned, (purse[0], stamps)), all_rides(cards, purse))

    def test_never_ends_just_from_the_told_number_on(self):
        for cards in PAYING + ENDING:
            for many in range(4):
                stamps = (many,) * len(cards)
                told = least_endless(cards, stamps)
                for rides in range(12):
                    never = all_rides(cards, (rides, stamps)) is None
                    self.assertEqual(never, told is not None and rides >= told, (cards, stamps, rides))

    def test_so_many_rides_just_from_the_told_number_on(self):
        for cards in PAYING + ENDING:
            for number in range(0, 40, 3):
                stamps = tuple(range(len(cards)))
                told = least_rides(cards, stamps, number)
                for rides in range(45):
                    enough = at_least(all_rides(cards, (rides, stamps)), number)
                    self.assertEqual(enough, rides >= told, (cards, number, rides))


if __name__ == "__main__":
    unittest.main()
