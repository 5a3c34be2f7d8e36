"""Promise 4: what is cards, and what is a purse for them."""

import unittest

from freerides.cards import are_cards, is_purse
from freerides.errors import NoCards
from tests.helper import MOST, whole_things


class Cards(unittest.TestCase):
    def test_one_to_three_kinds(self):
        for thing in [(2,), (20,), (2, 20), (20, 2), (7, 7), (2, 11, 20), (20, 20, 20), (2, 2, 2)]:
            with self.subTest(thing):
                self.assertIs(are_cards(thing), True)

    def test_each_number_of_stamps(self):
        for full in range(-3, 25):
            for thing in [(full,), (full, 5), (5, full), (5, full, 5), (5, 5, full)]:
                with self.subTest(thing):
                    self.assertIs(are_cards(thing), 2 <= full <= 20)

    def test_no_kind_and_four(self):
        for thing in [(), (2, 2, 2, 2), (5, 6, 7, 8, 9), (3,) * 100]:
            with self.subTest(thing):
                self.assertIs(are_cards(thing), False)

    def test_lists_and_what_is_no_number(self):
        for wrong in [True, False, None, "", "5", [5], (5,), [], (), 10 ** 39, -5]:
            for thing in [wrong, [wrong], (wrong,), (wrong, 5), (5, wrong), (5, 5, wrong)]:
                with self.subTest(repr(thing)):
                    self.assertIs(are_cards(thing), thing == (5,))

    def test_things_that_are_none(self):
        for thing in whole_things() + [0, 2, 5, [2], [2, 3], "ab", "2", ((2, 3),), ((2,), (3,))]:
            with self.subTest(repr(thing)):
                self.assertIs(are_cards(thing), False)


class Purses(unittest.TestCase):
    def test_bounds_of_rides(self):
        for rides, told in [(0, True), (1, True), (MOST - 1, True), (MOST, True), (-1, False), (MOST + 1, False)]:
            for cards, stamps in [((2,), (0,)), ((3, 20), (0, MOST)), ((5, 6, 7), (1, 2, 3))]:
                with self.subTest(rides=rides, cards=cards):
                    self.assertIs(is_purse(cards, (rides, stamps)), told)

    def test_bounds_of_stamps(self):
        for many, told in [(0, True), (25, True), (MOST, True), (-1, False), (MOST + 1, False), (10 ** 39, False)]:
            for stamps in [(many,), (many, 0), (0, many), (many, 0, 0), (0, many, 0), (0, 0, many)]:
                with self.subTest(stamps):
                    self.assertIs(is_purse((4,) * len(stamps), (1, stamps)), told)

    def test_as_many_stamps_as_kinds(self):
        for kinds in (1, 2, 3):
            for many in range(6):
                with self.subTest(kinds=kinds, many=many):
                    self.assertIs(is_purse((5,) * kinds, (1, (2,) * many)), kinds == many)

    def test_pairs_that_are_none(self):
        for thing in [(), (1,), (1, (2,), 3), (1, (2,), ()), ((2,), 1), ((2,), (2,)), (1, 2), (1, 2, 3), ((1, (2,)),)]:
            with self.subTest(repr(thing)):
                self.assertIs(is_purse((5,), thing), False)

    def test_a_pair_of_another_length_is_no_purse_for_two_kinds_either(self):
        for thing in [(1, 2), (1, (2, 3), (2, 3)), (1, (2,), (3,)), (1, 2, 3), (1, ((2, 3),))]:
            with self.subTest(repr(thing)):
                self.assertIs(is_purse((5, 6), thing), False)

    def test_lists_where_a_tuple_is_asked(self):
        for thing in [[1, (2,)], (1, [2]), [1, [2]], ([1], (2,)), (1, ([2],))]:
            with self.subTest(repr(thing)):
                self.assertIs(is_purse((5,), thing), False)

    def test_what_is_no_number(self):
        for wrong in [True, False, None, "", "1", "a", [1], (1,), [], ()]:
            for cards, thing in [((5,), (wrong, (1,))), ((5,), (1, (wrong,))), ((5, 5), (1, (1, wrong))),
                                 ((5, 5), (1, (wrong, 1))), ((5,), (wrong, (wrong,)))]:
                with self.subTest(repr(thing)):
                    self.assertIs(is_purse(cards, thing), False)

    def test_stamps_that_are_none(self):
        for wrong in [True, False, None, "a", 1, [], ()]:
            with self.subTest(repr(wrong)):
                self.assertIs(is_purse((5,), (1, wrong)), False)

    def test_things_that_are_none(self):
        for cards in [(2,), (3, 4), (5, 6, 7)]:
            for thing in whole_things():
                with self.subTest(repr(thing)):
                    self.assertIs(is_purse(cards, thing), False)

    def test_no_cards_are_refused(self):
        for cards in whole_things() + [(1,), (21,), (2, 2, 2, 2), [2], (2, True)]:
            for thing in [(1, (1,)), None, (1, (1, 1, 1, 1))]:
                with self.subTest(repr(cards)), self.assertRaises(NoCards):
                    is_purse(cards, thing)


if __name__ == "__main__":
    unittest.main()
