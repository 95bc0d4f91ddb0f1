"""[4]: the errors."""

from bodyforbody.errors import (BodyError, InvalidChange, InvalidCommand, InvalidMachine, InvalidQuestion,
                                InvalidRow, InvalidText, Refused)
from tests.helpers import Case

WITH_AT = (InvalidMachine, InvalidRow, InvalidChange, InvalidQuestion, InvalidText, Refused)


class Errors(Case):
    def test_they_stand_directly_under_the_one(self):
        self.assertEqual((ValueError,), BodyError.__bases__)
        for error in WITH_AT + (InvalidCommand,):
            self.assertEqual((BodyError,), error.__bases__)
            self.assertEqual("bodyforbody.errors", error.__module__)

    def test_they_keep_any_value(self):
        for error in WITH_AT:
            for value in (0, 7, None, [1, 2], "text", (), True):
                self.assertIs(value, error(value).at)
                self.assertIs(value, error(at=value).at)
            self.assertRaises(TypeError, error)

    def test_a_command_has_no_argument(self):
        self.assertFalse(hasattr(InvalidCommand(), "at"))

    def test_they_are_raised_and_caught(self):
        for error in WITH_AT:
            with self.assertRaises(BodyError):
                raise error(3)
        with self.assertRaises(ValueError):
            raise InvalidCommand()

    def test_equal_to_nothing_else(self):
        self.assertNotEqual(Refused(0), InvalidRow(0))
        self.assertNotEqual(Refused(0), 0)
