"""[4]: the errors."""

import unittest

from newsbehind import errors
from newsbehind.errors import NewsError, InvalidCommand

PLACED = ("InvalidNet", "InvalidText", "InvalidRun", "InvalidPaper", "InvalidQuestion", "Refused")


class ErrorsTest(unittest.TestCase):
    def test_each_is_a_direct_subclass(self):
        self.assertEqual(NewsError.__bases__, (ValueError,))
        for name in PLACED + ("InvalidCommand",):
            self.assertEqual(getattr(errors, name).__bases__, (NewsError,), name)

    def test_none_is_caught_as_another_one(self):
        kinds = [getattr(errors, name) for name in PLACED + ("InvalidCommand",)]
        for kind in kinds:
            self.assertEqual([other for other in kinds if issubclass(kind, other)], [kind])

    def test_any_value_is_kept(self):
        for name in PLACED:
            kind = getattr(errors, name)
            for value in (0, 5, -1, None, True, "where", (1, [2]), object(), 10 ** 399):
                self.assertIs(kind(value).at, value)
                self.assertIs(kind(at=value).at, value)

    def test_one_argument_is_wanted(self):
        for name in PLACED:
            with self.assertRaises(TypeError):
                getattr(errors, name)()
            with self.assertRaises(TypeError):
                getattr(errors, name)(1, 2)

    def test_invalid_command_takes_none(self):
        self.assertIsInstance(InvalidCommand(), NewsError)
        self.assertFalse(hasattr(InvalidCommand(), "at"))
        with self.assertRaises(TypeError):
            InvalidCommand(1)

    def test_they_are_raised_and_caught(self):
        for name in PLACED:
            with self.assertRaises(ValueError) as caught:
                raise getattr(errors, name)(7)
            self.assertEqual(caught.exception.at, 7)
        with self.assertRaises(NewsError):
            raise InvalidCommand()


if __name__ == "__main__":
    unittest.main()
