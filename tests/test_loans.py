"""Promise 8: how many rides one can have with a loan that is paid back, and with how small a one."""

import random
import unittest

from freerides.loans import can_have, greatest, least_loan
from freerides.rides import all_rides
from tests.helper import ENDING, MOST, PAYING, done, had_with_loan, paid, small_purses, some_purses

# (cards, rides and stamps of the purses, numbers) that a search over all loans and orders still gets through.
SEARCHED = [
    ((2,), 4, 4, 14), ((3,), 4, 4, 12), ((5,), 5, 6, 12), ((20,), 3, 1, 6), ((2, 2), 2, 2, 8), ((2, 3), 2, 2, 10),
    ((3, 2), 2, 2, 9), ((3, 3), 2, 3, 10), ((4, 4), 2, 3, 9), ((4, 6), 2, 2, 8), ((3, 20), 2, 1, 7),
    ((2, 2, 2), 1, 1, 6), ((3, 3, 3), 2, 2, 8), ((2, 3, 6), 2, 1, 8), ((3, 3, 4), 1, 2, 8), ((5, 5, 5), 2, 2, 8),
    ((4, 6, 9), 2, 2, 8), ((7, 2, 3), 1, 1, 8), ((2, 4, 4), 1, 1, 8), ((2, 2, 5), 1, 1, 6),
]


def plain_loan(cards, purse, number, most):
    """The least loan up to most, None where none does, by riding so often and giving each card once it is full."""
    for loan in range(most + 1):
        now = (purse[0] + loan, purse[1])
        ridden = 0
        while ridden <= number:
            now = all_given(cards, now)
            if ridden == number and now[0] >= loan:
                return loan
            if now[0] == 0:
                break
            now = done(cards, now, "ride")
            ridden += 1
    return None


def all_given(cards, purse):
    """The purse behind giving all full cards."""
    for kind, full in enumerate(cards):
        while purse[1][kind] >= full:
            purse = done(cards, purse, kind)
    return purse


class SmallPurses(unittest.TestCase):
    def test_told_by_hand(self):
        for cards, purse, number, loan in [
            ((10,), (9, (0,)), 9, 0), ((10,), (9, (0,)), 10, 1), ((10,), (9, (0,)), 11, None),
            ((10,), (10, (0,)), 11, 0), ((10,), (10, (0,)), 12, None), ((10,), (0, (9,)), 1, 1),
            ((10,), (0, (10,)), 1, 0), ((10,), (0, (10,)), 2, None), ((10,), (0, (0,)), 1, None),
            ((10, 10), (8, (0, 0)), 8, 0), ((10, 10), (8, (0, 0)), 9, None), ((10, 10), (8, (0, 0)), 10, 2),
            ((2,), (1, (0,)), 1, 0), ((2,), (1, (0,)), 2, 1), ((2,), (1, (0,)), 3, None),
            ((2, 2), (0, (0, 0)), 1, None), ((2, 2), (0, (0, 0)), 2, 2), ((2, 2), (0, (0, 0)), 3, None),
            ((2, 2), (0, (0, 0)), 4, 2), ((2, 2), (0, (1, 0)), 1, 1), ((2, 2, 2), (0, (0, 0, 0)), 3, 2),
        ]:
            with self.subTest(cards=cards, purse=purse, number=number):
                self.assertIs(can_have(cards, purse, number), loan is not None)
                self.assertEqual(least_loan(cards, purse, number), loan)

    def test_greatest_told_by_hand(self):
        for cards, purse, told in [
            ((10,), (9, (0,)), 10), ((10,), (10, (0,)), 11), ((10,), (8, (0,)), 8), ((10,), (0, (0,)), 0),
            ((10,), (0, (9,)), 1), ((10, 10), (8, (0, 0)), 10), ((2,), (1, (0,)), 2), ((2,), (7, (0,)), 14),
            ((2,), (0, (1,)), 1), ((2,), (0, (5,)), 5), ((3, 3), (1, (0, 0)), 3), ((2, 3), (1, (0, 0)), 6),
            ((2, 2), (0, (0, 0)), None), ((2, 2), (5, (1, 3)), None), ((2, 3, 6), (0, (0, 0, 0)), None),
            ((2, 2, 2), (0, (0, 0, 0)), None), ((3, 3, 3), (0, (0, 0, 0)), None), ((2, 3, 7), (1, (0, 0, 0)), 42),
        ]:
            with self.subTest(cards=cards, purse=purse):
                self.assertEqual(greatest(cards, purse), told)

    def test_against_all_loans_and_orders_of_deeds(self):
        for cards, rides, stamps, numbers in SEARCHED:
            for purse in small_purses(cards, rides, stamps):
                # With as many rides lent as are ridden each has its ride, so no greater loan is wanted.
                by_loan = [had_with_loan(cards, purse, loan, numbers) for loan in range(numbers + 1)]
                for number in range(numbers + 1):
                    loans = [loan for loan, had in enumerate(by_loan) if number in had]
                    told = (can_have(cards, purse, number), least_loan(cards, purse, number))
                    self.assertEqual(told, (bool(loans), min(loans, default=None)), (cards, purse, number))

    def test_greatest_against_all_loans_and_orders_of_deeds(self):
        for cards, purse, beyond in [
            ((3,), (2, (1,)), 9), ((3,), (3, (0,)), 9), ((4,), (5, (3,)), 12), ((5,), (4, (4,)), 12),
            ((4, 4), (1, (2, 3)), 12), ((3, 5), (1, (0, 0)), 12), ((3, 5), (0, (2, 4)), 12),
            ((5, 5, 5), (1, (2, 0, 0)), 12),
        ]:
            had = set()
            for loan in range(beyond + 1):
                had |= had_with_loan(cards, purse, loan, beyond)
            self.assertLess(max(had), beyond - 1)
            self.assertEqual(greatest(cards, purse), max(had), (cards, purse))

    def test_against_riding_with_cards_given_as_soon_as_full(self):
        chance = random.Random(11)
        for cards in PAYING + ENDING:
            for _ in range(4):
                purse = (chance.randint(0, 6), tuple(chance.randint(0, 9) for _ in cards))
                for number in range(0, 45, 4):
                    loan = plain_loan(cards, purse, number, number)
                    self.assertEqual(least_loan(cards, purse, number), loan, (cards, purse, number))
                    self.assertIs(can_have(cards, purse, number), loan is not None, (cards, purse, number))

    def test_no_ride_wants_no_loan(self):
        for cards in PAYING + ENDING:
            for purse in [(0, (0,) * len(cards)), (5, (19,) * len(cards)), (MOST, (MOST,) * len(cards))]:
                self.assertIs(can_have(cards, purse, 0), True)
                self.assertEqual(least_loan(cards, purse, 0), 0)

    def test_numbers_up_to_all_rides_want_no_loan_and_none_beyond(self):
        for cards in ENDING:
            for purse in small_purses(cards, 4, 2):
                rides = all_rides(cards, purse)
                for number in range(rides + 1):
                    self.assertEqual(least_loan(cards, purse, number), 0, (cards, purse, number))
                for number in range(rides + 1, rides + 20):
                    self.assertNotEqual(least_loan(cards, purse, number), 0, (cards, purse, number))


class GreatPurses(unittest.TestCase):
    def test_two_stamps(self):
        for rides in (1, 2, 77, 10 ** 9, MOST // 2):
            purse = (rides, (0,))
            self.assertEqual(greatest((2,), purse), 2 * rides)
            self.assertEqual(all_rides((2,), purse), 2 * rides - 1)
            self.assertEqual(least_loan((2,), purse, 2 * rides - 1), 0)
            self.assertEqual(least_loan((2,), purse, 2 * rides), 1)
        self.assertEqual(greatest((2,), (MOST, (0,))), 2 * MOST)
        self.assertEqual(greatest((2,), (MOST, (MOST,))), 3 * MOST)
        self.assertEqual(least_loan((2,), (MOST // 2, (0,)), MOST), 1)
        self.assertIs(can_have((2,), (MOST // 2 - 1, (0,)), MOST), False)
        self.assertIsNone(least_loan((2,), (MOST // 2 - 1, (0,)), MOST))

    def test_twice_three_stamps(self):
        for rides in (5, 100, 3 * 10 ** 17):
            told = [least_loan((3, 3), (rides, (0, 0)), 3 * rides + more) for more in range(-6, 4)]
            self.assertEqual(told, [0, 0, 0, 1, 1, None, 2, None, None, None], rides)
            told = [can_have((3, 3), (rides, (0, 0)), 3 * rides + more) for more in range(-6, 4)]
            self.assertEqual(told, [True, True, True, True, True, False, True, False, False, False], rides)
            self.assertEqual(greatest((3, 3), (rides, (0, 0))), 3 * rides)

    def test_the_slowest_cards(self):
        self.assertEqual(greatest((2, 3, 7), (MOST, (0, 0, 0))), 42 * MOST)
        self.assertEqual(greatest((2, 3, 7), (MOST, (MOST,) * 3)), 83 * MOST)
        purse = (MOST // 50, (0, 0, 0))
        self.assertEqual(greatest((2, 3, 7), purse), 42 * (MOST // 50))
        self.check_near((2, 3, 7), purse, 42 * (MOST // 50))
        self.check_near((2, 3, 7), purse, all_rides((2, 3, 7), purse))

    def test_no_number_beyond_the_greatest(self):
        chance = random.Random(12)
        for cards in ENDING + [(20, 19, 17), (16, 9, 5), (2, 4, 5)]:
            for purse in some_purses(cards, chance):
                told = greatest(cards, purse)
                self.assertLessEqual(told, paid(cards, purse, told), (cards, purse))
                for number in range(told + 1, told + 300):
                    self.assertGreater(number, paid(cards, purse, number), (cards, purse))
                # Far beyond, too: a number that can be had stays one if whole periods are taken from it.
                for number in (2 * told + 400, 1000 * told + 10 ** 6, told + MOST):
                    self.assertGreater(number, paid(cards, purse, number), (cards, purse))

    def test_no_greatest_just_where_rides_pay_for_themselves(self):
        for cards in PAYING:
            for purse in [(0, (0,) * len(cards)), (1, (1,) * len(cards)), (MOST, (MOST,) * len(cards))]:
                self.assertIsNone(greatest(cards, purse), (cards, purse))
        for cards in ENDING:
            for purse in [(0, (0,) * len(cards)), (1, (1,) * len(cards)), (MOST, (MOST,) * len(cards))]:
                self.assertIsNotNone(greatest(cards, purse), (cards, purse))

    def test_great_numbers_where_there_is_no_greatest(self):
        self.assertEqual(least_loan((2, 2), (0, (0, 0)), MOST), 2)
        self.assertIsNone(least_loan((2, 2), (0, (0, 0)), MOST - 1))
        self.assertEqual(least_loan((2, 2), (1, (0, 0)), MOST - 1), 1)
        self.assertEqual(least_loan((2, 2), (2, (0, 0)), MOST), 0)
        self.assertEqual(least_loan((2, 2, 2), (0, (0, 0, 0)), MOST - 1), 2)
        self.assertEqual(least_loan((2, 3, 6), (0, (0, 0, 0)), MOST - MOST % 6), 3)
        self.assertEqual([can_have((2, 3, 6), (0, (0, 0, 0)), MOST - MOST % 6 - over) for over in range(7)],
                         [True, False, False, False, False, False, True])

    def test_near_all_rides_and_near_the_greatest(self):
        chance = random.Random(13)
        for cards in ENDING:
            for most in (10, 10 ** 6, 10 ** 15):
                purse = (chance.randint(0, most), tuple(chance.randint(0, most) for _ in cards))
                self.check_near(cards, purse, all_rides(cards, purse))
                self.check_near(cards, purse, greatest(cards, purse))

    def test_great_numbers_against_all_rides(self):
        chance = random.Random(14)
        for cards in PAYING + ENDING:
            for number in (MOST, MOST - 1, chance.randint(0, MOST), chance.randint(0, 10 ** 9)):
                share = number // chance.choice([2, 3, 50, 10 ** 6])
                self.check_number(cards, (share, (share,) * len(cards)), number)

    def check_near(self, cards, purse, number):
        """What is told of the numbers near this one."""
        for near in range(max(0, number - 6), number + 7):
            self.check_number(cards, purse, near)

    def check_number(self, cards, purse, number):
        """The number can be had just where it pays for itself, with the told loan and with none less."""
        can = number <= paid(cards, purse, number)
        self.assertIs(can_have(cards, purse, number), can, (cards, purse, number))
        loan = least_loan(cards, purse, number)
        self.assertIs(loan is not None, can, (cards, purse, number))
        if can:
            self.assertTrue(self.enough(cards, purse, loan, number), (cards, purse, number))
            if loan > 0:
                self.assertFalse(self.enough(cards, purse, loan - 1, number), (cards, purse, number))

    def enough(self, cards, purse, loan, number):
        """Whether with the loan there is a ride for each of so many."""
        rides = all_rides(cards, (purse[0] + loan, purse[1]))
        return rides is None or rides >= number


class Told(unittest.TestCase):
    def test_kinds_of_what_is_told(self):
        for cards, purse, number in [((10,), (9, (0,)), 10), ((2, 3), (0, (0, 0)), 0), ((2, 3, 7), (9, (1, 2, 3)), 5)]:
            self.assertIs(type(greatest(cards, purse)), int)
            self.assertIs(type(can_have(cards, purse, number)), bool)
            self.assertIs(type(least_loan(cards, purse, number)), int)


if __name__ == "__main__":
    unittest.main()
