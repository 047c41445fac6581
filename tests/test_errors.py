"""The refusals of paidback/errors.py."""

import unittest

from paidback import errors

OF_TEXT = [
    "NoState", "NoCents", "NoName", "NoDeeds", "NoTimes", "NoMany", "NoPlace", "NoSeen", "NoPaid",
    "Nobody", "TooMuch", "Full", "LastOne", "NothingLeft",
]
OF_NAME = ["Twice", "NotIn"]


class Errors(unittest.TestCase):
    def test_any_refusal_is_a_value_error(self):
        self.assertEqual(errors.ClubError.__bases__, (ValueError,))
        self.assertIsInstance(errors.ClubError("why"), ValueError)

    def test_each_stands_straight_under_it(self):
        for name in OF_TEXT + OF_NAME:
            with self.subTest(name):
                self.assertEqual(getattr(errors, name).__bases__, (errors.ClubError,))
                self.assertEqual(getattr(errors, name).__module__, "paidback.errors")

    def test_all_are_unlike(self):
        self.assertEqual(len({getattr(errors, name) for name in OF_TEXT + OF_NAME}), 16)

    def test_made_of_a_text(self):
        for name in OF_TEXT:
            with self.subTest(name):
                self.assertEqual(str(getattr(errors, name)("why so")), "why so")

    def test_made_of_their_field(self):
        for name in OF_NAME:
            with self.subTest(name):
                self.assertEqual(getattr(errors, name)("ann").name, "ann")
                self.assertIsInstance(str(getattr(errors, name)("ann")), str)


if __name__ == "__main__":
    unittest.main()
