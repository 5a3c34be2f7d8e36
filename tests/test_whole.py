"""Promises 1 and 3, over the whole program: what its modules tell holds together."""

import itertools
import random
import unittest

from freerides.cards import behind
from freerides.errors import NoRide
from freerides.folk import apart, together
from freerides.kept import Kept
from freerides.loans import can_have, greatest, least_loan
from freerides.rides import all_rides, least_endless, least_rides, left
from freerides.seen import fits
from tests.helper import ENDING, MOST, PAYING, at_least, deeds_of, do, small_purses, some_purses


def more_by_one(purse):
    """The purses with one ride, or one stamp of a kind, more."""
    rides, stamps = purse
    yield (rides + 1, stamps)
    for kind in range(len(stamps)):
        yield (rides, stamps[:kind] + (stamps[kind] + 1,) + stamps[kind + 1:])


def ride_with_loan(cards, purse, loan, number):
    """The kept purse behind so many rides with the loan, each card given once it is full, and the loan paid back."""
    kept = Kept(cards, purse)
    if loan > 0:
        kept.lend(loan)
    give_all(cards, kept)
    for _ in range(number):
        kept.ride()
        give_all(cards, kept)
    if loan > 0:
        kept.pay(loan)
    return kept


def give_all(cards, kept):
    """Give all full cards."""
    for kind, full in enumerate(cards):
        while kept.purse()[1][kind] >= full:
            kept.give(kind)


class TheWhole(unittest.TestCase):
    def test_whatever_is_done_first(self):
        for cards in PAYING + ENDING:
            for purse in small_purses(cards, 3, 3):
                for deed in deeds_of(cards, purse):
                    self.check_deed(cards, purse, deed)

    def test_whatever_is_done_first_of_great_purses(self):
        chance = random.Random(3)
        for cards in PAYING + ENDING:
            for purse in some_purses(cards, chance):
                for deed in deeds_of(cards, purse):
                    self.check_deed(cards, purse, deed)

    def check_deed(self, cards, purse, deed):
        """A ride done first is one of those told, a card given first changes nothing; the same is left."""
        rides = all_rides(cards, purse)
        now = behind(cards, purse, [deed])
        self.assertEqual(left(cards, now), left(cards, purse), (cards, purse, deed))
        if rides is None:
            self.assertIsNone(all_rides(cards, now), (cards, purse, deed))
        else:
            self.assertEqual(all_rides(cards, now) + (deed == "ride"), rides, (cards, purse, deed))

    def test_a_row_till_nothing_can_be_done(self):
        chance = random.Random(33)
        for cards in ENDING:
            purse = (1, tuple(chance.randint(0, 2) for _ in cards))
            row = []
            while len(row) < 100 and (deeds := deeds_of(cards, behind(cards, purse, row))):
                row.append(chance.choice(deeds))
            self.assertLess(len(row), 100, (cards, purse))
            self.assertEqual(row.count("ride"), all_rides(cards, purse), (cards, purse))
            self.assertEqual(behind(cards, purse, row), (0, left(cards, purse)), (cards, purse))

    def test_what_is_left_makes_no_full_card(self):
        chance = random.Random(4)
        for cards in ENDING:
            for purse in some_purses(cards, chance):
                over = left(cards, purse)
                self.assertTrue(all(0 <= many < full for full, many in zip(cards, over)), (cards, purse))
                self.assertEqual(all_rides(cards, (0, over)), 0)

    def test_one_more_to_begin_with_never_brings_fewer(self):
        chance = random.Random(5)
        for cards in PAYING + ENDING:
            for purse in itertools.chain(small_purses(cards, 3, 2), some_purses(cards, chance)):
                rides = all_rides(cards, purse)
                for more in more_by_one(purse):
                    self.assertTrue(at_least(all_rides(cards, more), rides), (cards, purse, more))

    def test_a_card_with_more_stamps_never_brings_more(self):
        chance = random.Random(8)
        for cards in PAYING + ENDING:
            for kind in range(len(cards)):
                greater = cards[:kind] + (min(20, cards[kind] + 1),) + cards[kind + 1:]
                for purse in itertools.chain(small_purses(cards, 3, 2), some_purses(cards, chance)):
                    told = at_least(all_rides(cards, purse), all_rides(greater, purse))
                    self.assertTrue(told, (cards, greater, purse))

    def test_kinds_may_stand_in_another_order(self):
        for cards, purse in [((2, 3, 7), (9, (1, 2, 3))), ((2, 2, 5), (1, (1, 0, 4))), ((4, 6, 9), (MOST, (7, 8, 9)))]:
            for places in itertools.permutations(range(3)):
                turned = tuple(cards[place] for place in places)
                stamps = tuple(purse[1][place] for place in places)
                self.assertEqual(all_rides(turned, (purse[0], stamps)), all_rides(cards, purse))

    def test_never_ends_just_from_the_told_number_on(self):
        for cards in PAYING + ENDING:
            for many in range(4):
                stamps = (many,) * len(cards)
                told = least_endless(cards, stamps)
                for rides in range(12):
                    never = all_rides(cards, (rides, stamps)) is None
                    self.assertEqual(never, told is not None and rides >= told, (cards, stamps, rides))

    def test_so_many_rides_just_from_the_told_number_on(self):
        for cards in PAYING + ENDING:
            for number in range(0, 40, 3):
                stamps = tuple(range(len(cards)))
                told = least_rides(cards, stamps, number)
                for rides in range(45):
                    enough = at_least(all_rides(cards, (rides, stamps)), number)
                    self.assertEqual(enough, rides >= told, (cards, number, rides))


class Loans(unittest.TestCase):
    def test_just_the_told_numbers_with_the_told_loan_and_no_lesser_one(self):
        chance = random.Random(9)
        for cards in PAYING + ENDING:
            for _ in range(3):
                purse = (chance.randint(0, 5), tuple(chance.randint(0, 5) for _ in cards))
                for number in range(30):
                    self.check_number(cards, purse, number)

    def check_number(self, cards, purse, number):
        """A kept purse can have just so many rides with the told loan and not with a lesser one, or with none."""
        loan = least_loan(cards, purse, number)
        self.assertEqual(can_have(cards, purse, number), loan is not None, (cards, purse, number))
        if loan is None:
            # Lent as many as are ridden, one has a ride for each, and still can't pay them back.
            with self.assertRaises(NoRide):
                ride_with_loan(cards, purse, number, number)
            return
        kept = ride_with_loan(cards, purse, loan, number)
        self.assertEqual((kept.ridden(), kept.lent()), (number, 0), (cards, purse, number))
        if loan > 0:
            with self.assertRaises(NoRide):
                ride_with_loan(cards, purse, loan - 1, number)

    def test_none_greater_than_the_greatest(self):
        chance = random.Random(10)
        for cards in ENDING:
            for purse in itertools.chain(small_purses(cards, 2, 1), some_purses(cards, chance)):
                most = greatest(cards, purse)
                self.assertGreaterEqual(most, all_rides(cards, purse), (cards, purse))
                if most <= MOST - 50:
                    self.assertTrue(can_have(cards, purse, most), (cards, purse))
                    for more in range(1, 51):
                        self.assertFalse(can_have(cards, purse, most + more), (cards, purse, more))

    def test_no_greatest_just_where_it_never_ends_with_enough(self):
        for cards in PAYING + ENDING:
            for purse in small_purses(cards, 2, 2):
                endless = least_endless(cards, purse[1]) is not None
                self.assertEqual(greatest(cards, purse) is None, endless, (cards, purse))

    def test_one_more_to_begin_with_never_brings_fewer(self):
        for cards in PAYING + ENDING:
            for purse in small_purses(cards, 3, 2):
                for more in more_by_one(purse):
                    told = at_least(greatest(cards, more), greatest(cards, purse))
                    self.assertTrue(told, (cards, purse, more))
                    for number in range(0, 20, 3):
                        if can_have(cards, purse, number):
                            loan = least_loan(cards, more, number)
                            self.assertLessEqual(loan, least_loan(cards, purse, number), (cards, purse, more))

    def test_a_card_with_more_stamps_never_brings_more(self):
        for cards in PAYING + ENDING:
            for kind in range(len(cards)):
                greater = cards[:kind] + (min(20, cards[kind] + 1),) + cards[kind + 1:]
                for purse in small_purses(cards, 3, 2):
                    told = at_least(greatest(cards, purse), greatest(greater, purse))
                    self.assertTrue(told, (cards, greater, purse))


class Folk(unittest.TestCase):
    def test_together_as_many_as_apart_and_those_of_what_was_left(self):
        chance = random.Random(15)
        for cards in PAYING + ENDING:
            for _ in range(5):
                purses = tuple(chance.sample(list(small_purses(cards, 2, 2)) + list(some_purses(cards, chance)), 4))
                rides = apart(cards, purses)
                if rides is not None:
                    over = tuple(map(sum, zip(*(left(cards, purse) for purse in purses))))
                    more = all_rides(cards, (0, over))
                    rides = None if more is None else rides + more
                self.assertEqual(together(cards, purses), rides, (cards, purses))


class Seen(unittest.TestCase):
    def test_just_the_told_kinds_fit(self):
        for cards in [(2,), (12,), (3, 4), (2, 2), (2, 3, 7), (2, 3, 6), (5, 9, 11), (12, 12, 12)]:
            seen = tuple((rides, all_rides(cards, (rides, (0,) * len(cards)))) for rides in (2, 3, 7, 12, 25, 1000))
            told = fits(seen)
            self.assertIn(cards, told)
            for kinds in (1, 2, 3):
                for other in itertools.combinations_with_replacement(range(2, 13), kinds):
                    same = all(all_rides(other, (rides, (0,) * kinds)) == had for rides, had in seen)
                    self.assertEqual(other in told, same, (seen, other))


class KeptPurses(unittest.TestCase):
    def test_rides_ridden_and_those_still_had_are_all_rides(self):
        chance = random.Random(16)
        for cards in PAYING + ENDING:
            for purse in some_purses(cards, chance):
                kept, row, rides = Kept(cards, purse), [], all_rides(cards, purse)
                while len(row) < 30 and (deeds := deeds_of(cards, kept.purse())):
                    row.append(chance.choice(deeds))
                    do(kept, row[-1])
                    self.assertEqual(kept.purse(), behind(cards, purse, row))
                    still = kept.still()
                    self.assertEqual(None if still is None else kept.ridden() + still, rides, (cards, purse, row))

    def test_ridden_till_nothing_is_left(self):
        for cards in ENDING:
            purse = (2, (1,) * len(cards))
            kept = ride_with_loan(cards, purse, 0, all_rides(cards, purse))
            self.assertEqual(kept.purse(), (0, left(cards, purse)))
            self.assertEqual(kept.still(), 0)
            self.assertRaises(NoRide, kept.ride)


if __name__ == "__main__":
    unittest.main()
