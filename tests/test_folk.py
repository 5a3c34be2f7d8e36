"""Promise 9: how many rides folk have, each by themselves and together."""

import itertools
import random
import unittest

from freerides.errors import NoPurses
from freerides.folk import apart, together
from freerides.rides import all_rides, left
from tests.helper import ENDING, MOST, PAYING, at_least, in_order, paid, ride_first, small_purses, whole_things


def put_together(purses):
    """The purse with all rides and stamps."""
    return (sum(purse[0] for purse in purses), tuple(map(sum, zip(*(purse[1] for purse in purses)))))


def plain_apart(cards, purses):
    """All rides of each, by doing deed after deed."""
    rides = [in_order(cards, purse, ride_first)[0] for purse in purses]
    return None if None in rides else sum(rides)


def some_folk(cards, chance, most):
    """1 to 8 purses with at most so many rides, and stamps of each kind."""
    many = chance.randint(1, 8)
    return tuple((chance.randint(0, most), tuple(chance.randint(0, most) for _ in cards)) for _ in range(many))


class SmallPurses(unittest.TestCase):
    def test_told_by_hand(self):
        for cards, purses, alone, joined in [
            ((10,), ((9, (0,)), (1, (0,))), 10, 11), ((10,), ((9, (0,)), (1, (9,))), 11, 12),
            ((10,), ((10, (0,)),), 11, 11), ((10,), ((0, (5,)), (0, (5,))), 0, 1), ((10,), ((0, (0,)),) * 8, 0, 0),
            ((10,), ((5, (0,)),) * 8, 40, 44), ((2,), ((1, (0,)), (1, (0,))), 2, 3), ((2,), ((1, (1,)),) * 3, 6, 8),
            ((2, 2), ((1, (0, 0)), (1, (0, 0))), 2, None), ((2, 2), ((2, (0, 0)), (0, (0, 0))), None, None),
            ((2, 2), ((0, (0, 0)), (2, (0, 0))), None, None), ((2, 2), ((0, (1, 0)), (0, (0, 1))), 0, 0),
            ((2, 2), ((1, (0, 0)),), 1, 1), ((3, 3, 3), ((1, (0, 0, 0)),) * 3, 3, None),
            ((2, 3), ((1, (0, 2)), (1, (1, 0))), 5, 12),
        ]:
            with self.subTest(cards=cards, purses=purses):
                self.assertEqual(apart(cards, purses), alone)
                self.assertEqual(together(cards, purses), joined)

    def test_one_alone_has_all_rides_either_way(self):
        for cards in PAYING + ENDING:
            for purse in small_purses(cards, 3, 2):
                rides = all_rides(cards, purse)
                self.assertEqual(apart(cards, (purse,)), rides, (cards, purse))
                self.assertEqual(together(cards, (purse,)), rides, (cards, purse))

    def test_against_deeds(self):
        chance = random.Random(21)
        for cards in PAYING + ENDING:
            for most in (1, 1, 1, 2):
                purses = some_folk(cards, chance, most)
                self.assertEqual(apart(cards, purses), plain_apart(cards, purses), (cards, purses))
                told = in_order(cards, put_together(purses), ride_first)[0]
                self.assertEqual(together(cards, purses), told, (cards, purses))

    def test_all_pairs_of_small_purses(self):
        for cards in [(2,), (3,), (2, 2), (2, 3), (3, 3)]:
            for purses in itertools.product(small_purses(cards, 2, 2), repeat=2):
                self.assertEqual(apart(cards, purses), plain_apart(cards, purses), (cards, purses))
                told = in_order(cards, put_together(purses), ride_first)[0]
                self.assertEqual(together(cards, purses), told, (cards, purses))

    def test_none_where_somebodys_never_end_wherever_they_stand(self):
        for place in range(8):
            purses = [(1, (0, 0))] * 8
            purses[place] = (2, (0, 0))
            self.assertIsNone(apart((2, 2), tuple(purses)))
            self.assertIsNone(together((2, 2), tuple(purses)))


class AnyPurses(unittest.TestCase):
    def test_the_order_of_the_purses_changes_nothing(self):
        chance = random.Random(22)
        for cards in PAYING + ENDING:
            for most in (1, 3, MOST):
                purses = some_folk(cards, chance, most)
                told = (apart(cards, purses), together(cards, purses))
                for _ in range(4):
                    turned = tuple(chance.sample(purses, len(purses)))
                    self.assertEqual((apart(cards, turned), together(cards, turned)), told, (cards, purses))

    def test_what_was_left_to_each_brings_the_rest(self):
        chance = random.Random(23)
        for cards in PAYING + ENDING:
            for most in (1, 1, 2, 3, 20, 10 ** 6, MOST):
                self.check_rest(cards, some_folk(cards, chance, most))

    def check_rest(self, cards, purses):
        """Together are as many as apart, and those of all that was left."""
        alone = apart(cards, purses)
        if alone is None:
            self.assertIsNone(together(cards, purses), (cards, purses))
            return
        over = tuple(map(sum, zip(*(left(cards, purse) for purse in purses))))
        rest = all_rides(cards, (0, over))
        told = None if rest is None else alone + rest
        self.assertEqual(together(cards, purses), told, (cards, purses))

    def test_together_never_fewer(self):
        chance = random.Random(24)
        for cards in PAYING + ENDING:
            for most in (1, 5, 10 ** 9):
                purses = some_folk(cards, chance, most)
                self.assertTrue(at_least(together(cards, purses), apart(cards, purses)), (cards, purses))

    def test_sums_beyond_the_bound_of_a_purse(self):
        self.assertEqual(apart((2,), ((MOST, (0,)),) * 8), 8 * (2 * MOST - 1))
        self.assertEqual(together((2,), ((MOST, (0,)),) * 8), 16 * MOST - 1)
        self.assertEqual(together((2,), ((0, (MOST,)),) * 8), 8 * MOST - 1)
        self.assertEqual(together((2,), ((MOST, (MOST,)),) * 8), 24 * MOST - 1)
        self.assertEqual(together((11,), ((MOST, (0,)), (1, (0,)))), MOST + 1 + MOST // 10)
        self.assertIsNone(together((2, 2), ((MOST, (MOST, MOST)),) * 8))
        self.assertIsNone(apart((2, 2), ((MOST, (MOST, MOST)),) * 8))

    def test_great_sums_pay_for_themselves_and_none_fewer_do(self):
        chance = random.Random(25)
        for cards in ENDING:
            fewer = [chance.randint(0, 99) for _ in range(8)]
            purses = tuple((MOST - few, (MOST - 2 * few,) * len(cards)) for few in fewer)
            rides = together(cards, purses)
            self.assertEqual(rides, paid(cards, put_together(purses), rides), cards)
            for number in range(rides - 300, rides):
                self.assertGreater(paid(cards, put_together(purses), number), number, cards)

    def test_kinds_of_what_is_told(self):
        for cards, purses in [((2,), ((1, (0,)),)), ((2, 3), ((0, (0, 0)), (MOST, (MOST, 0))))]:
            self.assertIs(type(apart(cards, purses)), int)
            self.assertIs(type(together(cards, purses)), int)


class WhatIsNoPurses(unittest.TestCase):
    def test_one_to_eight(self):
        for many in range(12):
            purses = ((1, (1,)),) * many
            for function in (apart, together):
                with self.subTest(function.__name__, many=many):
                    if 1 <= many <= 8:
                        function((3,), purses)
                    else:
                        self.refused(function, (3,), purses)

    def test_one_that_is_no_purse_among_others(self):
        right = (1, (1, 2))
        for wrong in [(1, (1,)), (1, (1, 2, 3)), (-1, (1, 2)), (MOST + 1, (1, 2)), (1, (1, MOST + 1)), (1, (-1, 2)),
                      (True, (1, 2)), (1, (False, 2)), [1, (1, 2)], (1, [1, 2]), None, 1, "", (1, 1, 2), ()]:
            for purses in [(wrong,), (wrong, right), (right, wrong), (right,) * 7 + (wrong,)]:
                for function in (apart, together):
                    with self.subTest(function.__name__, purses=repr(purses)):
                        self.refused(function, (3, 4), purses)

    def test_refused_even_where_an_earlier_ones_never_end(self):
        for function in (apart, together):
            self.refused(function, (2, 2), ((9, (9, 9)), (1, (1, True))))

    def test_things_that_are_none(self):
        for thing in whole_things() + [(1, (1,)), [(1, (1,))], [], {(1, (1,)): True}]:
            for function in (apart, together):
                with self.subTest(function.__name__, thing=repr(thing)):
                    self.refused(function, (3,), thing)

    def refused(self, function, cards, purses):
        """NoPurses is raised."""
        with self.assertRaises(NoPurses):
            function(cards, purses)


if __name__ == "__main__":
    unittest.main()
