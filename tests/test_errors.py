"""The error classes of the interface."""

import unittest

from peatrick.errors import NoAmount, NoShare, PeatError


class ErrorClasses(unittest.TestCase):
    def test_what_each_stands_under(self):
        self.assertEqual(PeatError.__bases__, (ValueError,))
        self.assertEqual(NoAmount.__bases__, (PeatError,))
        self.assertEqual(NoShare.__bases__, (PeatError,))

    def test_names(self):
        names = [error.__name__ for error in (PeatError, NoAmount, NoShare)]
        self.assertEqual(names, ["PeatError", "NoAmount", "NoShare"])

    def test_refusals_are_taken_as_what_they_stand_under(self):
        for error in (PeatError, NoAmount, NoShare):
            for above in (PeatError, ValueError):
                with self.subTest(error=error, above=above):
                    with self.assertRaises(above):
                        raise error("words")

    def test_one_refusal_is_not_the_other(self):
        self.assertFalse(issubclass(NoAmount, NoShare))
        self.assertFalse(issubclass(NoShare, NoAmount))


if __name__ == "__main__":
    unittest.main()
