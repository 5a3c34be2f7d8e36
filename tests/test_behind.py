"""Promise 5: the purse behind a row of deeds."""

import itertools
import unittest

from freerides.cards import behind
from freerides.errors import NoRow
from tests.helper import ENDING, MOST, PAYING, deeds_of, done, whole_things


class Deeds(unittest.TestCase):
    def test_a_ride_is_gone_and_a_stamp_of_each_kind_is_had(self):
        self.assertEqual(behind((5,), (1, (0,)), ["ride"]), (0, (1,)))
        self.assertEqual(behind((5, 2), (3, (4, 1)), ["ride"]), (2, (5, 2)))
        self.assertEqual(behind((5, 2, 20), (3, (9, 0, 7)), ["ride", "ride"]), (1, (11, 2, 9)))

    def test_no_ride_to_ride(self):
        self.assertIsNone(behind((5,), (0, (4,)), ["ride"]))
        self.assertIsNone(behind((5,), (0, (50,)), ["ride"]))
        self.assertIsNone(behind((5, 6), (2, (0, 0)), ["ride", "ride", "ride"]))

    def test_a_full_card_is_given_for_a_ride(self):
        self.assertEqual(behind((5,), (0, (5,)), [0]), (1, (0,)))
        self.assertEqual(behind((5, 3), (2, (6, 7)), [0]), (3, (1, 7)))
        self.assertEqual(behind((5, 3), (2, (6, 7)), [1]), (3, (6, 4)))
        self.assertEqual(behind((5, 3, 4), (2, (6, 7, 4)), [2, 1, 1, 0]), (6, (1, 1, 0)))

    def test_too_few_stamps_to_give(self):
        self.assertIsNone(behind((5,), (9, (4,)), [0]))
        self.assertIsNone(behind((5, 3), (9, (9, 2)), [1]))
        self.assertIsNone(behind((5, 3), (9, (4, 9)), [0]))
        self.assertIsNone(behind((5, 3, 4), (9, (9, 9, 3)), [2]))
        self.assertIsNone(behind((5, 3), (0, (9, 9)), [0, 0]))

    def test_the_turn_counts(self):
        self.assertEqual(behind((2,), (1, (1,)), ["ride", 0]), (1, (0,)))
        self.assertIsNone(behind((2,), (1, (1,)), [0, "ride"]))
        self.assertEqual(behind((2,), (0, (2,)), [0, "ride"]), (0, (1,)))
        self.assertIsNone(behind((2,), (0, (2,)), ["ride", 0]))

    def test_what_follows_a_deed_that_cant_be_done_does_not_help(self):
        self.assertIsNone(behind((2,), (0, (2,)), ["ride", 0, "ride"]))
        self.assertIsNone(behind((2, 3), (5, (0, 0)), [1, "ride", "ride", "ride"]))

    def test_rows_of_four_against_plain_deeds(self):
        for cards in [(2,), (3,), (2, 3), (2, 2, 3)]:
            for rides, many in itertools.product(range(3), range(4)):
                purse = (rides, (many,) * len(cards))
                for row in itertools.product(["ride", *range(len(cards))], repeat=4):
                    now = purse
                    for deed in row:
                        now = done(cards, now, deed) if now and deed in deeds_of(cards, now) else None
                    self.assertEqual(behind(cards, purse, list(row)), now, (cards, purse, row))


class Rows(unittest.TestCase):
    def test_none(self):
        for cards in PAYING + ENDING:
            purse = (7, (8,) * len(cards))
            self.assertEqual(behind(cards, purse, []), purse)
            self.assertEqual(behind(cards, (0, (0,) * len(cards)), []), (0, (0,) * len(cards)))

    def test_of_a_hundred(self):
        self.assertEqual(behind((20,), (150, (3,)), ["ride"] * 100), (50, (103,)))
        self.assertEqual(behind((2, 3), (0, (300, 1)), [0] * 100), (100, (100, 1)))
        self.assertIsNone(behind((20,), (99, (3,)), ["ride"] * 100))

    def test_of_more_than_a_hundred(self):
        for row in [["ride"] * 101, [0] * 101, ["ride", 0] * 51]:
            with self.assertRaises(NoRow):
                behind((2,), (MOST, (MOST,)), row)

    def test_more_than_a_purse_may_have(self):
        self.assertEqual(behind((2,), (MOST, (MOST,)), ["ride"]), (MOST - 1, (MOST + 1,)))
        self.assertEqual(behind((2,), (MOST, (MOST,)), [0] * 100), (MOST + 100, (MOST - 200,)))
        self.assertEqual(behind((2, 9), (MOST, (5, MOST)), [1, "ride"] * 3), (MOST, (8, MOST - 24)))

    def test_what_is_no_list(self):
        for row in [(), ("ride",), (0,), "ride", "", "0", 0, 1, None, True, False]:
            with self.subTest(repr(row)), self.assertRaises(NoRow):
                behind((2, 2), (5, (5, 5)), row)

    def test_deeds_that_are_none(self):
        wrong = ["", "Ride", "RIDE", "rides", "ride ", " ride", "give", "0", "1", True, False, None, -1, -2, 10 ** 39,
                 [], ["ride"], [0], (), ("ride",), (0,)]
        for deed in wrong:
            for row in [[deed], ["ride", deed], [deed, "ride"], [0, 1, deed], ["ride"] * 50 + [deed]]:
                with self.subTest(repr(row)), self.assertRaises(NoRow):
                    behind((2, 2), (100, (100, 100)), row)

    def test_a_place_that_is_no_kind(self):
        for kinds in (1, 2, 3):
            purse = (9, (99,) * kinds)
            for place in range(-4, 7):
                with self.subTest(kinds=kinds, place=place):
                    if 0 <= place < kinds:
                        self.assertIsNotNone(behind((5,) * kinds, purse, [place]))
                    else:
                        with self.assertRaises(NoRow):
                            behind((5,) * kinds, purse, [place])

    def test_no_row_goes_ahead_of_a_deed_that_cant_be_done(self):
        for row in [["ride", "rides"], [0, 1], ["ride"] * 101, ["ride", True]]:
            with self.subTest(repr(row)), self.assertRaises(NoRow):
                behind((5,), (0, (0,)), row)

    def test_things_that_are_none(self):
        for row in whole_things():
            with self.subTest(repr(row)), self.assertRaises(NoRow):
                behind((5, 6, 7), (9, (9, 9, 9)), row)

    def test_the_row_stays_as_it_was(self):
        for row in [[], ["ride", 0, "ride"], ["ride"] * 9, [1]]:
            kept = list(row)
            behind((2, 3), (2, (3, 4)), row)
            self.assertEqual(row, kept)

    def test_the_purse_stays_as_it_was(self):
        purse = (2, (3, 4))
        self.assertEqual(behind((2, 3), purse, ["ride", 0, 1]), (3, (2, 2)))
        self.assertEqual(purse, (2, (3, 4)))

    def test_kinds_of_what_is_told(self):
        for row in [[], ["ride"], [0], ["ride", 0, 1]]:
            told = behind((2, 3), (2, (3, 4)), row)
            self.assertIs(type(told), tuple)
            self.assertIs(type(told[1]), tuple)
            self.assertEqual([type(number) for number in (told[0], *told[1])], [int] * 3)


if __name__ == "__main__":
    unittest.main()
