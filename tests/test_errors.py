"""The errors: what each one is, is not, takes and keeps."""

import unittest

from neverturns import errors
from tests.support import NO_STRINGS, nested

BASES = {
    "TurnError": ValueError,
    "InvalidWord": errors.TurnError,
    "InvalidMachine": errors.TurnError,
    "InvalidBox": errors.TurnError,
    "InvalidOperation": errors.TurnError,
    "ParseError": errors.TurnError,
    "UnknownName": KeyError,
    "GoesRound": LookupError,
    "InvalidNumber": RuntimeError,
    "TooMany": OverflowError,
    "NothingToUndo": IndexError,
    "Refused": ArithmeticError,
}
KEPT = {
    "ParseError": "line",
    "UnknownName": "name",
    "GoesRound": "turn",
    "InvalidNumber": "value",
    "TooMany": "limit",
    "NothingToUndo": "many",
    "Refused": "reason",
}
ANY = NO_STRINGS + ("", "a", "a word", 10 ** 5000, -10 ** 5000, nested(90), [0] * 10000, "x" * 10000, object())


class ErrorsTest(unittest.TestCase):

    def test_each_is_derived_directly(self):
        for name, base in BASES.items():
            self.assertEqual(getattr(errors, name).__bases__, (base,), name)
            self.assertEqual(getattr(errors, name).__module__, "neverturns.errors", name)

    def test_there_are_no_further_classes(self):
        found = [name for name, value in vars(errors).items() if isinstance(value, type)]
        self.assertEqual(sorted(found), sorted(BASES))

    def test_which_are_turn_errors(self):
        turn_errors = [name for name in BASES if issubclass(getattr(errors, name), errors.TurnError)]
        self.assertEqual(turn_errors, list(BASES)[:6])

    def test_what_each_one_is_not(self):
        own = [getattr(errors, name) for name in BASES]
        builtin = [ValueError, KeyError, LookupError, RuntimeError, OverflowError, IndexError, ArithmeticError]
        for error in own:
            for other in own + builtin + [TypeError, AttributeError, StopIteration, ZeroDivisionError]:
                told = error is other or issubclass(BASES[error.__name__], other)
                self.assertEqual(issubclass(error, other), told, (error, other))

    def test_some_take_any_argument_or_none(self):
        for name in BASES:
            if name not in KEPT:
                error = getattr(errors, name)
                self.assertIsInstance(error(), error)
                for value in ANY:
                    self.assertIsInstance(error(value), error)

    def test_the_others_keep_what_they_take(self):
        for name, kept in KEPT.items():
            for value in ANY:
                error = getattr(errors, name)(value)
                self.assertIs(getattr(error, kept), value)
                self.assertEqual([key for key in vars(error)], [kept])

    def test_the_others_take_just_one_argument(self):
        for name in KEPT:
            with self.assertRaises(TypeError):
                getattr(errors, name)()
            with self.assertRaises(TypeError):
                getattr(errors, name)(1, 2)

    def test_messages_can_be_written_whatever_is_kept(self):
        for name in KEPT:
            for value in ANY:
                error = getattr(errors, name)(value)
                self.assertIsInstance(str(error), str)
                self.assertIsInstance(repr(error), str)

    def test_they_can_be_caught_as_told(self):
        for name, base in BASES.items():
            with self.assertRaises(base):
                raise getattr(errors, name)("why")


if __name__ == "__main__":
    unittest.main()
