"""Promise 11: a purse kept as rides are had, cards given, loans taken and paid back."""

import random
import unittest

from freerides import errors
from freerides.cards import behind
from freerides.kept import Kept
from freerides.rides import all_rides
from tests.helper import ENDING, MOST, PAYING, deeds_of, do, done, in_order, ride_first, small_purses, whole_things


def told(kept):
    """All that a kept purse tells."""
    return (kept.purse(), kept.ridden(), kept.lent(), kept.still())


class KeptTest(unittest.TestCase):
    def refused(self, kept, refusal, method, *given):
        """The very refusal is raised, and nothing is changed, nor what can be taken back."""
        before = told(kept)
        with self.subTest(method, given=repr(given)), self.assertRaises(errors.RideError) as caught:
            getattr(kept, method)(*given)
        self.assertIs(type(caught.exception), refusal, (method, given))
        self.assertEqual(told(kept), before)
        return caught.exception


class Made(KeptTest):
    def test_at_first(self):
        for cards, purse, still in [((10,), (10, (0,)), 11), ((2, 2), (2, (0, 0)), None), ((2, 3), (0, (1, 2)), 0)]:
            kept = Kept(cards, purse)
            self.assertEqual(told(kept), (purse, 0, 0, still))

    def test_no_cards(self):
        for thing in whole_things() + [(1,), (21,), (2, 2, 2, 2), [2], (2, True), 2]:
            for purse in [(1, (1,)), None, (1, (1, 1, 1, 1))]:
                with self.subTest(repr(thing)), self.assertRaises(errors.NoCards):
                    Kept(thing, purse)

    def test_no_purse(self):
        for thing in whole_things() + [
            (1, (1,)), (1, (1, 2, 3)), (-1, (1, 2)), (MOST + 1, (1, 2)), (1, (1, MOST + 1)), (1, (-1, 2)),
            (True, (1, 2)), (1, (False, 2)), [1, (1, 2)], (1, [1, 2]), (1, 1, 2), (1, (1, 2), 0),
        ]:
            with self.subTest(repr(thing)), self.assertRaises(errors.NoPurse):
                Kept((3, 4), thing)

    def test_bounds(self):
        for full in (2, 20):
            for kinds in (1, 2, 3):
                for many in (0, MOST):
                    purse = (many, (many,) * kinds)
                    self.assertEqual(Kept((full,) * kinds, purse).purse(), purse)


class Deeds(KeptTest):
    def test_a_ride(self):
        kept = Kept((2, 3), (2, (0, 5)))
        self.assertIsNone(kept.ride())
        self.assertEqual(told(kept), ((1, (1, 6)), 1, 0, all_rides((2, 3), (1, (1, 6)))))
        self.assertIsNone(kept.ride())
        self.assertEqual(told(kept), ((0, (2, 7)), 2, 0, all_rides((2, 3), (0, (2, 7)))))
        self.refused(kept, errors.NoRide, "ride")

    def test_no_ride(self):
        for stamps in [(0, 0), (9, 9), (MOST, MOST)]:
            self.refused(Kept((2, 3), (0, stamps)), errors.NoRide, "ride")

    def test_a_full_card_is_given(self):
        kept = Kept((2, 3), (0, (2, 7)))
        self.assertIsNone(kept.give(1))
        self.assertEqual(told(kept)[:3], ((1, (2, 4)), 0, 0))
        self.assertIsNone(kept.give(0))
        self.assertEqual(told(kept)[:3], ((2, (0, 4)), 0, 0))
        kept.give(1)
        self.assertEqual(told(kept)[:3], ((3, (0, 1)), 0, 0))

    def test_too_few_stamps(self):
        for cards in [(2,), (20,), (2, 3), (5, 2, 9)]:
            for kind, full in enumerate(cards):
                stamps = tuple(MOST * (place != kind) for place in range(len(cards)))
                for many in (0, 1, full - 1):
                    few = stamps[:kind] + (many,) + stamps[kind + 1:]
                    self.assertEqual(self.refused(Kept(cards, (5, few)), errors.TooFew, "give", kind).kind, kind)
                kept = Kept(cards, (5, stamps[:kind] + (full,) + stamps[kind + 1:]))
                kept.give(kind)
                self.assertEqual(kept.purse()[1][kind], 0)

    def test_no_kind(self):
        for cards in [(2,), (2, 3), (2, 3, 4)]:
            for stamps in [(0,) * len(cards), (9,) * len(cards)]:
                kept = Kept(cards, (1, stamps))
                for thing in whole_things() + [len(cards), len(cards) + 1, -len(cards), "0", "ride", [0], (0,)]:
                    self.refused(kept, errors.NoKind, "give", thing)

    def test_a_loan(self):
        kept = Kept((10,), (9, (0,)))
        self.assertIsNone(kept.lend(3))
        self.assertEqual(told(kept), ((12, (0,)), 0, 3, 13))
        self.assertIsNone(kept.lend(1))
        self.assertEqual(told(kept), ((13, (0,)), 0, 4, 14))
        self.assertIsNone(kept.pay(2))
        self.assertEqual(told(kept), ((11, (0,)), 0, 2, 12))
        kept.pay(2)
        self.assertEqual(told(kept), ((9, (0,)), 0, 0, 9))
        self.refused(kept, errors.NoLoan, "pay", 1)

    def test_one_more_ride_with_a_loan(self):
        kept = Kept((10,), (9, (0,)))
        kept.lend(1)
        for _ in range(10):
            kept.ride()
        self.refused(kept, errors.NoRide, "ride")
        self.refused(kept, errors.NoRide, "pay", 1)
        kept.give(0)
        kept.pay(1)
        self.assertEqual(told(kept), ((0, (0,)), 10, 0, 0))

    def test_bounds_of_numbers(self):
        for number in (1, 2, MOST - 1, MOST):
            kept = Kept((5,), (3, (1,)))
            kept.lend(number)
            self.assertEqual(told(kept)[:3], ((3 + number, (1,)), 0, number))
            kept.pay(number)
            self.assertEqual(told(kept)[:3], ((3, (1,)), 0, 0))

    def test_no_number(self):
        kept = Kept((5,), (3, (1,)))
        kept.lend(MOST)
        kept.lend(MOST)
        wrong = [0, -1, MOST + 1, 2 * MOST, True, False, None, "", "1", "a", [1], (1,), [], ()] + whole_things()
        for thing in wrong:
            self.refused(kept, errors.NoNumber, "lend", thing)
            self.refused(kept, errors.NoNumber, "pay", thing)

    def test_no_number_ahead_of_no_loan_and_no_ride(self):
        for thing in [0, MOST + 1, True, None, "1"]:
            self.refused(Kept((5,), (0, (0,))), errors.NoNumber, "pay", thing)

    def test_no_loan_ahead_of_no_ride(self):
        kept = Kept((5,), (0, (0,)))
        self.refused(kept, errors.NoLoan, "pay", 1)
        self.refused(kept, errors.NoLoan, "pay", MOST)
        kept.lend(2)
        kept.ride()
        self.refused(kept, errors.NoLoan, "pay", 3)
        self.refused(kept, errors.NoRide, "pay", 2)
        kept.pay(1)
        self.refused(kept, errors.NoLoan, "pay", 2)
        self.refused(kept, errors.NoRide, "pay", 1)

    def test_no_loan_however_many_rides(self):
        kept = Kept((5,), (MOST, (0,)))
        self.refused(kept, errors.NoLoan, "pay", 1)
        kept.lend(4)
        self.refused(kept, errors.NoLoan, "pay", 5)
        kept.pay(4)

    def test_more_than_the_bound_of_a_purse(self):
        kept = Kept((2, 3), (MOST, (MOST, MOST)))
        for _ in range(3):
            kept.lend(MOST)
        self.assertEqual(told(kept)[:3], ((4 * MOST, (MOST, MOST)), 0, 3 * MOST))
        kept.ride()
        kept.give(1)
        self.assertEqual(kept.purse(), (4 * MOST, (MOST + 1, MOST - 2)))
        # For each further ride there are five sixths of a ride.
        self.assertGreater(kept.still(), 20 * MOST)
        for _ in range(3):
            kept.pay(MOST)
        self.assertEqual(kept.lent(), 0)

    def test_still_gives_none_back(self):
        kept = Kept((2,), (0, (0,)))
        kept.lend(5)
        self.assertEqual(kept.still(), 9)
        kept.ride()
        self.assertEqual(kept.still(), 8)
        kept.pay(4)
        self.assertEqual(kept.still(), 0)

    def test_still_never_ends(self):
        kept = Kept((2, 2), (1, (0, 0)))
        self.assertEqual(kept.still(), 1)
        kept.lend(1)
        self.assertIsNone(kept.still())
        kept.back()
        self.assertEqual(kept.still(), 1)
        kept.ride()
        self.assertEqual(kept.still(), 0)

    def test_still_against_deeds(self):
        for cards in [(2,), (2, 2), (2, 3), (3, 3, 4), (2, 3, 6)]:
            for purse in small_purses(cards, 2, 2):
                self.assertEqual(Kept(cards, purse).still(), in_order(cards, purse, ride_first)[0], (cards, purse))


class TakenBack(KeptTest):
    def test_nothing_left(self):
        self.refused(Kept((2, 3), (1, (1, 1))), errors.NothingLeft, "back")

    def test_each_deed_is_taken_back(self):
        for method, given in [("ride", ()), ("give", (0,)), ("give", (1,)), ("lend", (7,)), ("pay", (2,))]:
            kept = Kept((2, 3), (4, (5, 6)))
            kept.lend(3)
            before = told(kept)
            getattr(kept, method)(*given)
            self.assertNotEqual(told(kept), before)
            self.assertIsNone(kept.back())
            self.assertEqual(told(kept), before, method)
            kept.back()
            self.assertEqual(told(kept)[:3], ((4, (5, 6)), 0, 0))
            self.refused(kept, errors.NothingLeft, "back")

    def test_what_is_refused_is_not_taken_back(self):
        kept = Kept((2, 3), (1, (0, 0)))
        kept.ride()
        for refusal, method, given in [
            (errors.NoRide, "ride", ()), (errors.TooFew, "give", (0,)), (errors.NoKind, "give", (2,)),
            (errors.NoNumber, "lend", (0,)), (errors.NoNumber, "pay", (0,)), (errors.NoLoan, "pay", (1,)),
        ]:
            self.refused(kept, refusal, method, *given)
        kept.back()
        self.assertEqual(told(kept)[:3], ((1, (0, 0)), 0, 0))
        self.refused(kept, errors.NothingLeft, "back")
        kept.ride()
        self.assertEqual(told(kept)[:3], ((0, (1, 1)), 1, 0))

    def test_what_was_taken_back_is_not_taken_back_again(self):
        kept = Kept((5,), (3, (0,)))
        kept.ride()
        kept.lend(2)
        kept.back()
        kept.ride()
        self.assertEqual(told(kept)[:3], ((1, (2,)), 2, 0))
        kept.back()
        self.assertEqual(told(kept)[:3], ((2, (1,)), 1, 0))
        kept.back()
        self.assertEqual(told(kept)[:3], ((3, (0,)), 0, 0))
        self.refused(kept, errors.NothingLeft, "back")

    def test_long_rows_of_deeds_by_chance(self):
        chance = random.Random(41)
        for cards in PAYING + ENDING:
            kept = Kept(cards, (3, (2,) * len(cards)))
            past = [told(kept)]
            for _ in range(150):
                if chance.random() < 0.2 and len(past) > 1:
                    kept.back()
                    past.pop()
                    self.assertEqual(told(kept), past[-1])
                else:
                    past.append(self.do_by_chance(cards, kept, chance))
            while len(past) > 1:
                past.pop()
                kept.back()
                self.assertEqual(told(kept), past[-1])
            self.refused(kept, errors.NothingLeft, "back")

    def do_by_chance(self, cards, kept, chance):
        """Do something that can be done; told is as expected then."""
        purse, ridden, lent, _ = told(kept)
        deed = chance.choice(deeds_of(cards, purse) + ["lend"] + ["pay"] * (min(purse[0], lent) > 0))
        if deed == "lend":
            number = chance.randint(1, 4)
            kept.lend(number)
            now = ((purse[0] + number, purse[1]), ridden, lent + number)
        elif deed == "pay":
            number = chance.randint(1, min(purse[0], lent))
            kept.pay(number)
            now = ((purse[0] - number, purse[1]), ridden, lent - number)
        else:
            do(kept, deed)
            now = (done(cards, purse, deed), ridden + (deed == "ride"), lent)
        self.assertEqual(told(kept), now + (all_rides(cards, now[0]),))
        return told(kept)

    def test_rows_agree_with_behind(self):
        chance = random.Random(42)
        for cards in PAYING + ENDING:
            purse = (2, tuple(chance.randint(0, 4) for _ in cards))
            kept, row = Kept(cards, purse), []
            while len(row) < 60 and (deeds := deeds_of(cards, kept.purse())):
                row.append(chance.choice(deeds))
                do(kept, row[-1])
                self.assertEqual(kept.purse(), behind(cards, purse, row))
                self.assertEqual(kept.ridden(), row.count("ride"))


class LengthAndEquality(KeptTest):
    def test_length_is_the_kinds(self):
        for cards in [(2,), (2, 3), (2, 2, 2)]:
            kept = Kept(cards, (5, (9,) * len(cards)))
            self.assertEqual(len(kept), len(cards))
            kept.ride()
            kept.give(0)
            kept.lend(3)
            self.assertEqual(len(kept), len(cards))

    def test_equal_where_all_is(self):
        self.same(Kept((2, 3), (1, (0, 0))), Kept((2, 3), (1, (0, 0))))
        kept = Kept((2, 3), (1, (0, 0)))
        self.same(kept, kept)

    def test_not_equal_where_one_thing_is_not(self):
        first = Kept((2, 3), (1, (0, 0)))
        for other in [Kept((2, 4), (1, (0, 0))), Kept((3, 2), (1, (0, 0))), Kept((2, 3), (2, (0, 0))),
                      Kept((2, 3), (1, (1, 0))), Kept((2,), (1, (0,))), Kept((2, 3, 3), (1, (0, 0, 0)))]:
            self.other(first, other)

    def test_rides_ridden_count(self):
        ridden = Kept((2,), (2, (0,)))
        ridden.ride()
        ridden.ride()
        ridden.give(0)
        self.other(ridden, Kept((2,), (1, (0,))))
        less = Kept((2,), (1, (1,)))
        less.ride()
        less.give(0)
        self.assertEqual(less.purse(), ridden.purse())
        self.other(ridden, less)

    def test_rides_lent_count(self):
        lent = Kept((2,), (1, (0,)))
        lent.lend(2)
        self.other(lent, Kept((2,), (3, (0,))))
        more = Kept((2,), (0, (0,)))
        more.lend(3)
        self.other(lent, more)

    def test_the_way_there_does_not_count(self):
        first, other = Kept((2, 3), (2, (2, 3))), Kept((2, 3), (2, (2, 3)))
        first.ride()
        first.give(0)
        self.other(first, other)
        other.give(0)
        other.lend(4)
        other.ride()
        other.pay(4)
        self.same(first, other)
        first.back()
        self.other(first, other)

    def test_back_at_the_first_is_equal_to_a_new_one(self):
        kept = Kept((2, 3), (2, (2, 3)))
        kept.ride()
        kept.lend(2)
        kept.back()
        kept.back()
        self.same(kept, Kept((2, 3), (2, (2, 3))))

    def test_another_start_that_came_to_the_same(self):
        first, other = Kept((2,), (5, (0,))), Kept((2,), (3, (0,)))
        first.lend(1)
        other.lend(1)
        first.ride()
        other.ride()
        self.other(first, other)
        by_card = Kept((2,), (4, (2,)))
        by_card.give(0)
        self.same(by_card, Kept((2,), (5, (0,))))

    def test_nothing_else_equals_one(self):
        kept = Kept((2, 3), (1, (0, 0)))
        for thing in whole_things() + [(1, (0, 0)), (2, 3), ((2, 3), (1, (0, 0))), [(1, (0, 0)), 0, 0], 2, object()]:
            self.other(kept, thing)

    def same(self, first, other):
        """The two are equal, either way round."""
        self.assertEqual([first == other, other == first, first != other, other != first], [True, True, False, False])

    def other(self, first, other):
        """The two are not equal, either way round."""
        self.assertEqual([first == other, other == first, first != other, other != first], [False, False, True, True])


class Told(KeptTest):
    def test_the_same_asked_again(self):
        kept = Kept((2, 3), (4, (5, 6)))
        kept.ride()
        self.assertEqual(repr(told(kept)), repr(told(kept)))

    def test_asking_changes_nothing_that_can_be_taken_back(self):
        kept = Kept((2, 3), (4, (5, 6)))
        told(kept)
        self.assertEqual((len(kept), kept == Kept((2, 3), (4, (5, 6)))), (2, True))
        self.refused(kept, errors.NothingLeft, "back")

    def test_two_do_not_share_anything(self):
        cards, purse = (2, 3), (4, (5, 6))
        first, other = Kept(cards, purse), Kept(cards, purse)
        first.ride()
        first.lend(9)
        self.assertEqual(told(other)[:3], (purse, 0, 0))
        self.refused(other, errors.NothingLeft, "back")
        self.assertEqual((cards, purse), ((2, 3), (4, (5, 6))))

    def test_kinds_of_what_is_told(self):
        kept = Kept((2, 3), (4, (5, 6)))
        for method, given in [("ride", ()), ("give", (0,)), ("lend", (7,)), ("pay", (2,)), ("back", ())]:
            self.assertIsNone(getattr(kept, method)(*given))
            purse, *numbers = told(kept)
            self.assertEqual([type(purse), type(purse[0]), type(purse[1])], [tuple, int, tuple])
            self.assertEqual({type(many) for many in purse[1]}, {int})
            self.assertEqual({type(number) for number in numbers}, {int})


if __name__ == "__main__":
    unittest.main()
