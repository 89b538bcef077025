"""The errors: their names, and which is over which."""

import unittest

from bitpack import errors
from bitpack.errors import BadRecord, Left, NoBits, PackError, Short, TooWide, Wrong

SIX = [TooWide, BadRecord, Short, Wrong, Left, NoBits]


class ErrorsTest(unittest.TestCase):
    def test_names(self):
        names = ["TooWide", "BadRecord", "Short", "Wrong", "Left", "NoBits"]
        self.assertEqual([error.__name__ for error in SIX], names)
        self.assertEqual(PackError.__name__, "PackError")

    def test_each_is_defined_in_errors(self):
        for error in SIX + [PackError]:
            self.assertEqual(error.__module__, "bitpack.errors")
            self.assertIs(getattr(errors, error.__name__), error)

    def test_pack_error_is_a_value_error(self):
        self.assertEqual(PackError.__bases__, (ValueError,))

    def test_each_of_the_six_is_a_pack_error(self):
        for error in SIX:
            self.assertTrue(issubclass(error, PackError), error)
            self.assertTrue(issubclass(error, ValueError), error)
            self.assertFalse(issubclass(PackError, error), error)

    def test_none_of_the_six_is_over_another(self):
        for upper in SIX:
            for lower in SIX:
                self.assertEqual(issubclass(lower, upper), lower is upper, (lower, upper))

    def test_each_can_be_raised_and_caught_as_a_pack_error(self):
        for error in SIX + [PackError]:
            with self.assertRaises(PackError) as caught:
                raise error("told")
            self.assertIs(type(caught.exception), error)
            self.assertEqual(str(caught.exception), "told")


if __name__ == "__main__":
    unittest.main()
