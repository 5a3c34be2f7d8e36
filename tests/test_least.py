"""Promise 7: the least rides so that it never ends, and the least for so many rides."""

import itertools
import random
import unittest

from freerides.rides import all_rides, least_endless, least_rides
from tests.helper import ENDING, MOST, PAYING, at_least, in_order, ride_first


def plain_rides(cards, purse):
    """All rides, by doing deed after deed."""
    return in_order(cards, purse, ride_first)[0]


class LeastEndless(unittest.TestCase):
    def test_told_by_hand(self):
        for cards, stamps, told in [
            ((2, 2), (0, 0), 2), ((2, 2), (1, 0), 1), ((2, 2), (1, 1), 1), ((2, 2), (2, 0), 1), ((2, 2), (2, 2), 0),
            ((3, 3, 3), (0, 0, 0), 3), ((2, 3, 6), (0, 0, 0), 3), ((2, 2, 2), (0, 0, 0), 2), ((2, 2), (4, 0), 0),
            ((2,), (0,), None), ((2, 3), (0, 0), None), ((2, 3, 7), (5, 5, 5), None), ((20, 20, 20), (0, 0, 0), None),
        ]:
            with self.subTest(cards=cards, stamps=stamps):
                self.assertEqual(least_endless(cards, stamps), told)

    def test_against_deeds(self):
        for cards in PAYING:
            for stamps in itertools.product(range(4), repeat=len(cards)):
                rides = 0
                while plain_rides(cards, (rides, stamps)) is not None:
                    rides += 1
                self.assertEqual(least_endless(cards, stamps), rides, (cards, stamps))

    def test_never_ends_from_it_on_and_with_no_fewer(self):
        chance = random.Random(7)
        for cards in PAYING + [(2, 2, full) for full in range(2, 21)]:
            for most in (1, 5, 30, MOST):
                stamps = tuple(chance.randint(0, most) for _ in cards)
                rides = least_endless(cards, stamps)
                for more in (0, 1, 2, 50):
                    self.assertIsNone(all_rides(cards, (rides + more, stamps)), (cards, stamps))
                for fewer in range(rides):
                    self.assertIsNotNone(all_rides(cards, (fewer, stamps)), (cards, stamps))

    def test_many_stamps_need_no_ride(self):
        for cards in PAYING:
            self.assertEqual(least_endless(cards, (MOST,) * len(cards)), 0)
            self.assertEqual(least_endless(cards, (0,) * (len(cards) - 1) + (MOST,)), 0)

    def test_none_where_it_always_ends(self):
        for cards in ENDING + [(full,) for full in range(2, 21)]:
            for many in (0, 1, 19, MOST):
                self.assertIsNone(least_endless(cards, (many,) * len(cards)), cards)

    def test_just_the_kinds_whose_shares_make_a_ride(self):
        for cards in itertools.combinations_with_replacement(range(2, 21), 3):
            first, second, third = cards
            never = first * second + second * third + first * third >= first * second * third
            self.assertEqual(least_endless(cards, (0, 0, 0)) is not None, never, cards)
        for cards in itertools.product(range(2, 21), repeat=2):
            self.assertEqual(least_endless(cards, (0, 0)) is not None, cards == (2, 2), cards)


class LeastRides(unittest.TestCase):
    def test_told_by_hand(self):
        for cards, stamps, number, told in [
            ((10,), (0,), 10, 10), ((10,), (0,), 11, 10), ((10,), (0,), 12, 11), ((10,), (9,), 2, 1),
            ((10,), (10,), 1, 0), ((2,), (0,), 1, 1), ((2,), (0,), 3, 2), ((2,), (0,), 4, 3), ((2,), (7,), 6, 0),
            ((2,), (7,), 7, 1), ((2, 2), (0, 0), 1, 1), ((2, 2), (0, 0), 2, 2), ((2, 2), (0, 0), MOST, 2),
            ((2, 3), (0, 0), 5, 2), ((2, 3), (0, 0), 6, 3), ((2,), (0,), MOST, MOST // 2 + 1),
        ]:
            with self.subTest(cards=cards, stamps=stamps, number=number):
                self.assertEqual(least_rides(cards, stamps, number), told)

    def test_no_rides_want_none(self):
        for cards in PAYING + ENDING:
            for many in (0, 1, MOST):
                self.assertEqual(least_rides(cards, (many,) * len(cards), 0), 0)

    def test_against_deeds(self):
        for cards in PAYING + ENDING:
            for stamps in itertools.product(range(0, 5, 2), repeat=len(cards)):
                rides = 0
                for number in range(12):
                    while not at_least(plain_rides(cards, (rides, stamps)), number):
                        rides += 1
                    self.assertEqual(least_rides(cards, stamps, number), rides, (cards, stamps, number))

    def test_each_number_across_several_periods(self):
        for cards in [(2,), (5,), (2, 3), (4, 6), (2, 3, 7), (3, 3, 4), (2, 2, 5), (2, 3, 6), (2, 4, 4)]:
            for stamps in [(0,) * len(cards), (1,) * len(cards), tuple(range(5, 5 + len(cards)))]:
                for number in range(1, 130):
                    self.check(cards, stamps, number)

    def test_great_numbers(self):
        chance = random.Random(17)
        for cards in PAYING + ENDING + [(20, 19, 17), (19, 18, 17)]:
            for most in (0, 10 ** 9, MOST):
                for number in (1, 10 ** 6, MOST - 1, MOST, chance.randint(0, MOST)):
                    self.check(cards, tuple(chance.randint(0, most) for _ in cards), number)

    def check(self, cards, stamps, number):
        """With as many as told one has at least so many, or never ends; with one fewer not."""
        rides = least_rides(cards, stamps, number)
        self.assertIs(type(rides), int)
        self.assertGreaterEqual(rides, 0)
        self.assertTrue(at_least(all_rides(cards, (rides, stamps)), number), (cards, stamps, number))
        if rides > 0:
            self.assertFalse(at_least(all_rides(cards, (rides - 1, stamps)), number), (cards, stamps, number))


if __name__ == "__main__":
    unittest.main()
