import unittest

from asunmoved import errors

MESSAGES = [
    errors.InvalidMover, errors.InvalidReader, errors.InvalidStore, errors.InvalidOperation,
    errors.ParseError, errors.InvalidCommand, errors.TornJournal,
]
VALUES = [
    (errors.InvalidNumber, IndexError, "value"), (errors.UnknownName, KeyError, "name"),
    (errors.TooMany, OverflowError, "limit"), (errors.Waits, RuntimeError, "readers"),
    (errors.Unreadable, ArithmeticError, "paper"), (errors.NothingToUndo, LookupError, "many"),
]


class Errors(unittest.TestCase):
    def test_move_error_is_a_value_error(self):
        self.assertEqual(errors.MoveError.__bases__, (ValueError,))
        self.assertEqual(str(errors.MoveError("some words")), "some words")

    def test_errors_with_a_message(self):
        for error in MESSAGES:
            self.assertEqual(error.__bases__, (errors.MoveError,))
            self.assertEqual(str(error("some words")), "some words")
            with self.assertRaises(ValueError):
                raise error("some words")

    def test_errors_with_a_value(self):
        for error, base, name in VALUES:
            self.assertEqual(error.__bases__, (base,))
            self.assertFalse(issubclass(error, errors.MoveError))
            for value in (40, None, (1, 2), "a name", [1], True):
                self.assertIs(getattr(error(value), name), value)
                self.assertIs(getattr(error(**{name: value}), name), value)
            with self.assertRaises(base):
                raise error(5)

    def test_errors_are_not_derived_from_one_another(self):
        every = MESSAGES + [error for error, _, _ in VALUES]
        for one in every:
            for other in every:
                self.assertEqual(issubclass(one, other), one is other)

    def test_each_takes_one_value(self):
        for error, _, _ in VALUES:
            with self.assertRaises(TypeError):
                error()
            with self.assertRaises(TypeError):
                error(1, 2)
