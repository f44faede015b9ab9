"""Point [1]: the errors, their places under one another, and their texts."""

import unittest

from sparebay import errors
from sparebay.errors import BayError

NAMES = [
    "NoWeb", "NoBay", "NoBlock", "NoStanding", "NoMatch", "BadMove", "NoMoves", "NoTour",
    "NoCount", "NoWish", "NoYard", "NoPiece", "NoWay", "NoDeed", "NoUndo", "NoThings",
    "TooGreat", "NoTie", "Parted", "NotKept",
]


class ErrorsTest(unittest.TestCase):

    def test_bay_error_is_directly_under_value_error(self):
        self.assertEqual(BayError.__bases__, (ValueError,))

    def test_each_other_one_is_directly_under_bay_error(self):
        for name in NAMES:
            self.assertEqual(getattr(errors, name).__bases__, (BayError,), name)

    def test_none_is_under_another_one(self):
        for name in NAMES:
            for other in NAMES:
                under = issubclass(getattr(errors, name), getattr(errors, other))
                self.assertEqual(under, name == other, (name, other))

    def test_there_are_twenty_and_no_more(self):
        found = [name for name in vars(errors) if isinstance(vars(errors)[name], type)]
        self.assertEqual(sorted(found), sorted(NAMES + ["BayError"]))
        self.assertEqual(len(NAMES), 20)

    def test_str_tells_the_text(self):
        for name in NAMES + ["BayError"]:
            for text in ("", "a text", "two\nrows", "{} 'x'"):
                self.assertEqual(str(getattr(errors, name)(text)), text, name)

    def test_they_are_raised_and_caught_by_name(self):
        for name in NAMES:
            for caught in (getattr(errors, name), BayError, ValueError):
                with self.assertRaises(caught) as held:
                    raise getattr(errors, name)("told")
                self.assertEqual(str(held.exception), "told")
                self.assertIs(type(held.exception), getattr(errors, name))
