"""Promise 6: rides till nothing is left, and what stamps are left."""

import random
import unittest

from freerides.rides import all_rides, left
from tests.helper import ENDING, MOST, PAYING, all_ends, in_order, orders, paid, ride_first, small_purses


class SmallPurses(unittest.TestCase):
    def test_told_by_hand(self):
        for cards, purse, rides, stamps in [
            ((10,), (10, (0,)), 11, (1,)),
            ((3,), (7, (0,)), 10, (1,)),
            ((2,), (1, (0,)), 1, (1,)),
            ((2,), (1, (1,)), 2, (1,)),
            ((2,), (0, (1,)), 0, (1,)),
            ((2,), (0, (7,)), 6, (1,)),
            ((2, 2), (1, (0, 0)), 1, (1, 1)),
            ((2, 2), (0, (2, 0)), 1, (1, 1)),
            ((2, 2), (2, (0, 0)), None, None),
            ((2, 3), (2, (0, 0)), 5, (1, 2)),
            ((20, 20, 20), (19, (0, 0, 0)), 19, (19, 19, 19)),
            ((20, 20, 20), (20, (0, 0, 0)), 23, (3, 3, 3)),
        ]:
            with self.subTest(cards=cards, purse=purse):
                self.assertEqual(all_rides(cards, purse), rides)
                self.assertEqual(left(cards, purse), stamps)

    def test_nothing_to_begin_with(self):
        for cards in PAYING + ENDING:
            none = (0,) * len(cards)
            self.assertEqual(all_rides(cards, (0, none)), 0)
            self.assertEqual(left(cards, (0, none)), none)

    def test_no_full_card_and_no_ride(self):
        for cards in PAYING + ENDING:
            stamps = tuple(full - 1 for full in cards)
            self.assertEqual(all_rides(cards, (0, stamps)), 0)
            self.assertEqual(left(cards, (0, stamps)), stamps)

    def test_against_deeds_in_other_orders(self):
        for cards in PAYING + ENDING:
            for purse in small_purses(cards, 3, 5 - len(cards)):
                told = (all_rides(cards, purse), left(cards, purse))
                for choose in orders():
                    self.assertEqual(told, in_order(cards, purse, choose), (cards, purse))

    def test_against_all_orders(self):
        for cards in [(2,), (3,), (2, 2), (2, 3), (3, 3), (2, 2, 2), (2, 3, 6), (3, 3, 3), (4, 3, 5)]:
            for purse in small_purses(cards, 4, 2):
                rides = all_rides(cards, purse)
                if rides is None:
                    self.assertEqual(all_ends(cards, purse, 8), set(), (cards, purse))
                else:
                    ends = {(rides, left(cards, purse))}
                    self.assertEqual(all_ends(cards, purse, rides + 5), ends, (cards, purse))

    def test_all_two_kinds_against_deeds(self):
        for first in range(2, 21):
            for second in range(2, 21):
                for purse in [(0, (19, 19)), (3, (1, 0)), (11, (0, 5)), (2, (40, 1))]:
                    cards = (first, second)
                    told = (all_rides(cards, purse), left(cards, purse))
                    self.assertEqual(told, in_order(cards, purse, ride_first), (cards, purse))

    def test_three_kinds_that_need_not_end_against_deeds(self):
        for last in range(2, 21):
            for cards in [(2, 2, last), (last, 2, 2), (2, 3, last), (3, 3, last), (2, 4, last), (2, 5, last)]:
                for purse in small_purses(cards, 3, 1):
                    told = (all_rides(cards, purse), left(cards, purse))
                    self.assertEqual(told, in_order(cards, purse, ride_first), (cards, purse))


class GreatPurses(unittest.TestCase):
    def test_rides_pay_for_themselves_and_none_fewer_do(self):
        chance = random.Random(6)
        for cards in ENDING + [(20, 19, 17), (2, 3, 8), (2, 3, 9), (2, 4, 5), (3, 3, 4)]:
            for most in (10 ** 3, 10 ** 9, MOST):
                purse = (chance.randint(0, most), tuple(chance.randint(0, most) for _ in cards))
                rides = all_rides(cards, purse)
                self.assertEqual(rides, paid(cards, purse, rides), (cards, purse))
                # A number that falls short of what it pays for is not the end.
                for fewer in range(max(0, rides - 500), rides):
                    self.assertGreater(paid(cards, purse, fewer), fewer, (cards, purse))
                stamps = tuple((many + rides) % full for full, many in zip(cards, purse[1]))
                self.assertEqual(left(cards, purse), stamps)

    def test_the_greatest_purse(self):
        self.assertEqual(all_rides((2,), (MOST, (0,))), 2 * MOST - 1)
        self.assertEqual(left((2,), (MOST, (0,))), (1,))
        self.assertEqual(all_rides((2,), (MOST, (MOST,))), 3 * MOST - 1)
        self.assertEqual(left((2,), (MOST, (MOST,))), (1,))
        self.assertEqual(all_rides((11,), (MOST, (0,))), MOST + (MOST - 1) // 10)
        self.assertEqual(all_rides((20,), (0, (MOST,))), (MOST - 1) // 19)
        self.assertEqual(all_rides((3, 3), (MOST, (0, 0))), 3 * MOST - 4)

    def test_the_slowest_cards(self):
        purse = (MOST, (MOST,) * 3)
        rides = all_rides((2, 3, 7), purse)
        self.assertEqual(rides, paid((2, 3, 7), purse, rides))
        self.assertGreater(rides, 80 * MOST)
        self.assertEqual(left((2, 3, 7), purse), ((MOST + rides) % 2, (MOST + rides) % 3, (MOST + rides) % 7))

    def test_great_purses_that_never_end(self):
        for cards in PAYING:
            for purse in [(MOST, (0,) * len(cards)), (0, (MOST,) * len(cards)), (MOST, (MOST,) * len(cards)),
                          (0, (MOST,) + (0,) * (len(cards) - 1))]:
                self.assertIsNone(all_rides(cards, purse), (cards, purse))
                self.assertIsNone(left(cards, purse), (cards, purse))

    def test_great_purses_end_where_a_period_does_not_pay(self):
        for cards in ENDING:
            purse = (MOST, (MOST,) * len(cards))
            self.assertIsNotNone(all_rides(cards, purse), cards)
            self.assertIsNotNone(left(cards, purse), cards)

    def test_kinds_of_what_is_told(self):
        for cards, purse in [((2, 3), (5, (0, 1))), ((2, 3), (0, (0, 0))), ((2, 3, 7), (MOST, (0, 1, 2)))]:
            self.assertIs(type(all_rides(cards, purse)), int)
            self.assertIs(type(left(cards, purse)), tuple)
            self.assertEqual({type(many) for many in left(cards, purse)}, {int})


if __name__ == "__main__":
    unittest.main()
