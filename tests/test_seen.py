"""Promise 10: which kinds of cards fit what others had."""

import itertools
import random
import unittest

from freerides.errors import NoSeen
from freerides.rides import all_rides
from freerides.seen import fits
from tests.helper import MOST, in_order, ride_first, whole_things

ALL = sorted(cards for kinds in (1, 2, 3) for cards in itertools.combinations_with_replacement(range(2, 13), kinds))


def plain_fits(seen):
    """All cards that fit, each by all rides of each pair."""
    return [cards for cards in ALL if all(all_rides(cards, (rides, (0,) * len(cards))) == had for rides, had in seen)]


def had_of(cards, rides):
    """The pair that is seen of one who has these cards, and begins with so many rides."""
    return (rides, all_rides(cards, (rides, (0,) * len(cards))))


class Fits(unittest.TestCase):
    def test_told_by_hand(self):
        for seen, told in [
            (((10, 11), (9, 9)), [(10,), (10, 12), (10, 12, 12)]),
            (((2, 3), (3, 5), (4, 7), (5, 9), (12, 23)), [(2,)]),
            (((2, 2), (3, 4), (4, 5), (5, 7), (12, 17)), [(3,)]),
            (((11, 11), (12, 13)), [(12,)]),
            (((11, 11), (12, 14)), [(12, 12)]),
            (((11, 11), (12, 15)), [(12, 12, 12)]),
            (((11, 11), (12, 16)), []),
            (((2, None),), [(2, 2)] + [(2, 2, last) for last in range(2, 13)] + [(2, 3, 3), (2, 3, 4), (2, 3, 5)]),
            (((2, 5), (3, None)), [(2, 3, 6)]), (((2, 5), (3, 5)), []),
            (((1, None),), []), (((0, None),), []), (((0, 1),), []), (((5, 4),), []), (((1, 2),), []),
            (((5, 5), (5, 6)), []), (((3, None), (3, 9)), []), (((1000, MOST),), []),
        ]:
            with self.subTest(seen):
                self.assertEqual(fits(seen), told)

    def test_never_ends(self):
        told = [cards for cards in ALL if len(cards) == 3 and sum(2520 * 11 // full for full in cards) >= 2520 * 11]
        self.assertEqual(fits(((1000, None),)), sorted(told + [(2, 2)]))

    def test_what_says_nothing_fits_all(self):
        self.assertEqual(len(ALL), 11 + 66 + 286)
        for seen in [((0, 0),), ((1, 1),), ((0, 0), (1, 1)), ((0, 0),) * 20]:
            self.assertEqual(fits(seen), ALL)

    def test_each_kind_is_told_back(self):
        for cards in ALL:
            seen = tuple(had_of(cards, rides) for rides in (1, 2, 3, 4, 5, 7, 9, 11, 12, 13, 24, 36, 77, 999))
            self.assertIn(cards, fits(seen))

    def test_against_deeds(self):
        for rides in range(7):
            plain = {cards: in_order(cards, (rides, (0,) * len(cards)), ride_first)[0] for cards in ALL}
            for had in [*range(20), *set(plain.values()), None]:
                told = [cards for cards in ALL if plain[cards] == had]
                self.assertEqual(fits(((rides, had),)), told, (rides, had))

    def test_all_rides_against_all_cards(self):
        chance = random.Random(31)
        for _ in range(60):
            cards = chance.choice(ALL)
            many = chance.randint(1, 20)
            seen = tuple(had_of(cards, chance.randint(0, chance.choice([5, 20, 1000]))) for _ in range(many))
            self.assertEqual(fits(seen), plain_fits(seen), seen)
            self.assertIn(cards, fits(seen))

    def test_rising_with_no_greater_card_ahead_of_a_lesser_one(self):
        for seen in [((0, 0),), ((2, 3),), ((6, None),), ((12, 13),), ((30, 44),)]:
            told = fits(seen)
            self.assertEqual(told, sorted(set(told)))
            for cards in told:
                self.assertEqual(cards, tuple(sorted(cards)))
                self.assertTrue(1 <= len(cards) <= 3 and 2 <= cards[0] and cards[-1] <= 12, cards)

    def test_no_kinds_beyond_twelve_stamps(self):
        self.assertEqual(fits((had_of((13,), 13), had_of((13,), 12), had_of((13,), 26))), [])
        self.assertEqual(fits((had_of((20, 20, 20), 19), had_of((20, 20, 20), 20))), [])

    def test_the_order_of_pairs_changes_nothing(self):
        chance = random.Random(32)
        for cards in [(2,), (3, 5), (2, 3, 7), (2, 2, 12), (12, 12, 12)]:
            seen = [had_of(cards, rides) for rides in (2, 5, 11, 40)]
            told = fits(tuple(seen))
            self.assertEqual(fits(tuple(chance.sample(seen, 4))), told)
            self.assertEqual(fits(tuple(seen + seen)), told)

    def test_each_pair_counts(self):
        # Twenty pairs of which just the one at some place bars the cards.
        for place in range(20):
            seen = [had_of((7,), rides) for rides in range(1, 21)]
            self.assertIn((7,), fits(tuple(seen)))
            seen[place] = (seen[place][0], seen[place][1] + 1)
            self.assertNotIn((7,), fits(tuple(seen)))

    def test_the_list_is_the_askers_own(self):
        for seen in [((0, 0),), ((2, None),), ((0, 1),)]:
            told = fits(seen)
            kept = list(told)
            told.append((99,))
            told.reverse()
            self.assertEqual(fits(seen), kept)
            self.assertIsNot(fits(seen), fits(seen))

    def test_kinds_of_what_is_told(self):
        for seen in [((2, 3),), ((0, 1),)]:
            self.assertIs(type(fits(seen)), list)
        for cards in fits(((2, 3),)):
            self.assertIs(type(cards), tuple)
            self.assertEqual({type(full) for full in cards}, {int})


class WhatIsNothingSeen(unittest.TestCase):
    def test_one_to_twenty_pairs(self):
        for many in (1, 2, 19, 20):
            self.assertEqual(fits(((1, 1),) * many), ALL)
        for many in (0, 21, 22, 100):
            self.refused(((1, 1),) * many)

    def test_bounds_of_rides(self):
        for rides in (0, 1, 999, 1000):
            fits(((rides, rides),))
        for rides in (-1, 1001, MOST, -1000, 10 ** 39):
            self.refused(((rides, 5),))
            self.refused(((5, 5), (rides, None)))

    def test_bounds_of_had(self):
        for had in (0, 1, MOST - 1, MOST, None):
            fits(((5, had),))
        for had in (-1, MOST + 1, 10 ** 39, -MOST):
            self.refused(((5, had),))
            self.refused(((5, 5), (6, had)))

    def test_what_is_no_number(self):
        for wrong in [True, False, "", "5", [5], (5,), [], ()]:
            self.refused(((wrong, 5),))
            self.refused(((5, wrong),))
            self.refused(((5, 5), (wrong, wrong)))
        self.refused(((None, 5),))
        self.refused(((None, None),))

    def test_what_is_no_pair(self):
        for wrong in [(), (5,), (5, 5, 5), [5, 5], None, 5, True, "55", ((5, 5),), (5, (5,)), (None,)]:
            self.refused((wrong,))
            self.refused(((5, 5), wrong))
            self.refused((wrong, (5, 5)))
            self.refused(((5, 5),) * 19 + (wrong,))

    def test_no_tuple(self):
        for wrong in [[(5, 5)], (5, 5), [[5, 5]], ([5, 5],), 5, "", None]:
            self.refused(wrong)

    def test_refused_even_where_nothing_fits(self):
        self.refused(((0, 1), (0, True)))
        self.refused(((0, 1),) * 20 + (None,))

    def test_things_that_are_none(self):
        for thing in whole_things():
            self.refused(thing)

    def refused(self, thing):
        """NoSeen is raised."""
        with self.subTest(repr(thing)), self.assertRaises(NoSeen):
            fits(thing)


if __name__ == "__main__":
    unittest.main()
