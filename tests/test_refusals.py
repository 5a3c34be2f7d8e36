"""Promise 2 and the interface: what is refused, in which order, and that nothing is changed."""

import copy
import itertools
import unittest

from freerides import cards, errors, folk, kept, loans, rides, seen
from tests.helper import MOST, whole_things

# Of each function the right arguments, and for each of them the refusal of what is none.
CALLS = [
    (cards.is_purse, [(2, 3), None], [errors.NoCards, None]),
    (cards.behind, [(2, 3), (2, (4, 5)), ["ride", 0]], [errors.NoCards, errors.NoPurse, errors.NoRow]),
    (rides.all_rides, [(2, 3), (2, (4, 5))], [errors.NoCards, errors.NoPurse]),
    (rides.left, [(2, 3), (2, (4, 5))], [errors.NoCards, errors.NoPurse]),
    (rides.least_endless, [(2, 3), (4, 5)], [errors.NoCards, errors.NoStamps]),
    (rides.least_rides, [(2, 3), (4, 5), 9], [errors.NoCards, errors.NoStamps, errors.NoNumber]),
    (loans.greatest, [(2, 3), (2, (4, 5))], [errors.NoCards, errors.NoPurse]),
    (loans.can_have, [(2, 3), (2, (4, 5)), 9], [errors.NoCards, errors.NoPurse, errors.NoNumber]),
    (loans.least_loan, [(2, 3), (2, (4, 5)), 9], [errors.NoCards, errors.NoPurse, errors.NoNumber]),
    (folk.apart, [(2, 3), ((2, (4, 5)), (1, (0, 0)))], [errors.NoCards, errors.NoPurses]),
    (folk.together, [(2, 3), ((2, (4, 5)), (1, (0, 0)))], [errors.NoCards, errors.NoPurses]),
    (seen.fits, [((2, 3), (5, None))], [errors.NoSeen]),
    (kept.Kept, [(2, 3), (2, (4, 5))], [errors.NoCards, errors.NoPurse]),
]

WRONG = {
    errors.NoCards: [(), (1,), (21,), (2, 2, 2, 2), [2, 3], (2, True), (2, "3"), ((2, 3),), 2],
    errors.NoPurse: [(2, (4,)), (2, (4, 5, 6)), (-1, (4, 5)), (2, (4, -1)), (2, (4, MOST + 1)), (MOST + 1, (4, 5)),
                     [2, (4, 5)], (2, [4, 5]), (True, (4, 5)), (2, (4, False)), (4, 5), (2, (4, 5), 0), (2, None)],
    errors.NoStamps: [(4,), (4, 5, 6), (-1, 5), (4, -1), (4, MOST + 1), [4, 5], (True, 5), (4, False), (4, None),
                      (2, (4, 5)), ((4, 5),), 4, ("4", "5")],
    errors.NoRow: [("ride", 0), ["ride", 2], ["ride", -1], ["ride", True], [False], ["rides"], ["ride"] * 101, "ride"],
    errors.NoNumber: [-1, MOST + 1, 10 ** 39, True, False, None, "9", [9], (9,), ""],
    errors.NoPurses: [(2, (4, 5)), ((2, (4, 5)),) * 9, [(2, (4, 5))], ((2, (4, 5)), (2, (4,))), ((2, (4, True)),),
                      ((2, (4, 5)), None), ((2, [4, 5]),), ([2, (4, 5)],), (((2, (4, 5)),),), ((MOST + 1, (4, 5)),)],
    errors.NoSeen: [(2, 3), ((2, 3),) * 21, [(2, 3)], ((2, 3), (1001, 5)), ((-1, 3),), ((2, -1),), ((2, MOST + 1),),
                    ((2, 3, 4),), ((2,),), ([2, 3],), ((True, 3),), ((2, False),), ((None, 3),), (None,), ((2, "3"),)],
}


class Refusals(unittest.TestCase):
    def test_right_arguments_are_answered(self):
        for function, right, _ in CALLS:
            with self.subTest(function.__name__):
                function(*right)

    def test_what_is_none_is_refused(self):
        for function, right, refusals in CALLS:
            for place, refusal in enumerate(refusals):
                for wrong in WRONG.get(refusal, []) + (whole_things() if refusal else []):
                    with self.subTest(function.__name__, wrong=repr(wrong)):
                        self.refused(function, right[:place] + [wrong] + right[place + 1:], refusal)

    def test_the_first_argument_that_is_none_goes_first(self):
        for function, right, refusals in CALLS:
            for places in itertools.product([False, True], repeat=len(right)):
                due = [refusal for refusal, wrong in zip(refusals, places) if wrong and refusal]
                if due:
                    for thing in (None, True, "", 10 ** 39, [[]], ()):
                        given = [thing if wrong else arg for arg, wrong in zip(right, places)]
                        with self.subTest(function.__name__, given=repr(given)):
                            self.refused(function, given, due[0])

    def test_refused_ahead_of_all_else(self):
        # Each of these would be told None, or 0, at once, were it not for the argument that is none.
        self.refused(cards.behind, [(5,), (0, (0,)), ["ride", None]], errors.NoRow)
        self.refused(rides.least_rides, [(5,), [0], 0], errors.NoStamps)
        self.refused(rides.least_endless, [(5,), (0, 0)], errors.NoStamps)
        self.refused(rides.all_rides, [(2, 2), (9, (9, True))], errors.NoPurse)
        self.refused(rides.left, [(2, 2), (9, (9, True))], errors.NoPurse)
        self.refused(loans.greatest, [(2, 2), (9, (9, True))], errors.NoPurse)
        self.refused(loans.can_have, [(5,), [0, (0,)], 0], errors.NoPurse)
        self.refused(loans.least_loan, [(5,), (0, [0]), 0], errors.NoPurse)
        self.refused(folk.apart, [(2, 2), ((9, (9, 9)), None)], errors.NoPurses)
        self.refused(folk.together, [(2, 2), ((9, (9, 9)), None)], errors.NoPurses)
        self.refused(seen.fits, [((0, 1), (0, True))], errors.NoSeen)

    def test_bounds_are_answered(self):
        for full in (2, 20):
            for many in (0, MOST):
                for kinds in (1, 2, 3):
                    kind, stamps = (full,) * kinds, (many,) * kinds
                    for number in (0, MOST):
                        cards.behind(kind, (number, stamps), [])
                        rides.all_rides(kind, (number, stamps))
                        rides.left(kind, (number, stamps))
                        rides.least_endless(kind, stamps)
                        rides.least_rides(kind, stamps, number)
                        loans.greatest(kind, (number, stamps))
                        loans.can_have(kind, (number, stamps), number)
                        loans.least_loan(kind, (number, stamps), number)
                        folk.apart(kind, ((number, stamps),) * 8)
                        folk.together(kind, ((number, stamps),) * 8)
                        kept.Kept(kind, (number, stamps)).still()

    def refused(self, function, given, refusal):
        """The very refusal is raised, and what was handed in stays as it was."""
        kept = copy.deepcopy(given)
        with self.assertRaises(errors.RideError) as caught:
            function(*given)
        self.assertIs(type(caught.exception), refusal)
        self.assertEqual(repr(given), repr(kept))


class Unchanged(unittest.TestCase):
    def test_what_is_handed_in_stays_as_it_was(self):
        for function, right, _ in CALLS:
            given = copy.deepcopy(right)
            function(*given)
            self.assertEqual(repr(given), repr(right), function.__name__)

    def test_things_asked_about_stay_as_they_were(self):
        for thing in whole_things():
            kept = repr(thing)
            cards.are_cards(thing)
            cards.is_purse((2, 3), thing)
            self.assertEqual(repr(thing), kept)

    def test_the_same_is_answered_the_same(self):
        calls = [(function, right) for function, right, _ in CALLS]
        calls += [(cards.are_cards, [thing]) for thing in [(2,), [2], None]]
        calls += [(rides.all_rides, [(2, 2), (2, (0, 0))]), (rides.left, [(2, 3, 7), (MOST, (1, 2, 3))])]
        calls += [(loans.greatest, [(2, 2), (2, (0, 0))]), (loans.least_loan, [(2, 2), (0, (0, 0)), 3])]
        once = [function(*given) for function, given in calls]
        again = [function(*given) for function, given in reversed(calls)]
        self.assertEqual(once, again[::-1])
        self.assertEqual([type(told) for told in once], [type(told) for told in again[::-1]])


if __name__ == "__main__":
    unittest.main()
