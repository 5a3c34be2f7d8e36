"""freerides.errors: the refusals and how they are made."""

import inspect
import unittest

from freerides import errors

OF_TEXT = [
    "NoCards", "NoPurse", "NoStamps", "NoRow", "NoNumber", "NoPurses", "NoSeen", "NoRide", "NoKind", "NoLoan",
    "NothingLeft",
]


class Refusals(unittest.TestCase):
    def test_any_refusal_stands_straight_under_value_error(self):
        self.assertEqual(errors.RideError.__bases__, (ValueError,))

    def test_each_stands_straight_under_ride_error(self):
        for name in OF_TEXT + ["TooFew"]:
            with self.subTest(name):
                self.assertEqual(getattr(errors, name).__bases__, (errors.RideError,))
                self.assertEqual(getattr(errors, name).__name__, name)
                self.assertEqual(getattr(errors, name).__module__, "freerides.errors")

    def test_no_other_classes(self):
        names = {name for name, thing in vars(errors).items() if inspect.isclass(thing)}
        self.assertEqual(names, set(OF_TEXT) | {"RideError", "TooFew"})

    def test_none_catches_another_one(self):
        for name in OF_TEXT + ["TooFew"]:
            for other in OF_TEXT + ["TooFew"]:
                with self.subTest(name=name, other=other):
                    under = issubclass(getattr(errors, name), getattr(errors, other))
                    self.assertEqual(under, name == other)

    def test_made_of_a_text(self):
        for name in OF_TEXT + ["RideError"]:
            with self.subTest(name), self.assertRaises(errors.RideError) as caught:
                raise getattr(errors, name)("some text")
            self.assertEqual(str(caught.exception), "some text")

    def test_too_few_has_its_kind(self):
        for kind in (0, 1, 2):
            with self.subTest(kind), self.assertRaises(errors.RideError) as caught:
                raise errors.TooFew(kind)
            self.assertEqual(caught.exception.kind, kind)
            self.assertIsInstance(str(caught.exception), str)

    def test_too_few_wants_its_kind(self):
        with self.assertRaises(TypeError):
            errors.TooFew()


if __name__ == "__main__":
    unittest.main()
