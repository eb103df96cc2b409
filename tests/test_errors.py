"""[4]: the error classes."""

import unittest

from noneleft import errors
from noneleft.errors import (InvalidBook, InvalidCommand, InvalidCrowd, InvalidGroup, InvalidQuestion, InvalidRun,
                             InvalidText, LeftError, NotSafe, Refused)

WITH_PLACE = (InvalidBook, InvalidCrowd, InvalidRun, InvalidGroup, InvalidQuestion, InvalidText, NotSafe, Refused)


class Errors(unittest.TestCase):

    def test_what_they_derive_from(self):
        self.assertEqual(LeftError.__bases__, (ValueError,))
        for one in WITH_PLACE + (InvalidCommand,):
            self.assertEqual(one.__bases__, (LeftError,), one)

    def test_none_is_derived_from_another_one(self):
        for one in WITH_PLACE + (InvalidCommand,):
            for other in WITH_PLACE + (InvalidCommand,):
                self.assertEqual(issubclass(one, other), one is other)

    def test_they_keep_what_they_are_given(self):
        kept = [1, 2]
        for one in WITH_PLACE:
            for value in (0, 7, -1, 10 ** 40, "text", None, (1, 2), True, kept):
                self.assertIs(one(value).at, value)
                self.assertIs(one(at=value).at, value)
            with self.assertRaises(TypeError):
                one()

    def test_a_command_has_no_place(self):
        self.assertFalse(hasattr(InvalidCommand(), "at"))

    def test_they_are_caught_as_what_they_derive_from(self):
        for one in WITH_PLACE:
            for caught in (one, LeftError, ValueError):
                with self.assertRaises(caught) as seen:
                    raise one(3)
                self.assertEqual(seen.exception.at, 3)
        for caught in (InvalidCommand, LeftError, ValueError):
            with self.assertRaises(caught):
                raise InvalidCommand()

    def test_they_stand_in_their_module(self):
        for one in WITH_PLACE + (InvalidCommand, LeftError):
            self.assertEqual(one.__module__, "noneleft.errors")
            self.assertIs(getattr(errors, one.__name__), one)


if __name__ == "__main__":
    unittest.main()
