"""The errors of the interface."""

import unittest

from rodturns import errors
from rodturns.errors import ApartError, FoldError, TextError

WITH_MESSAGE = [
    "RuleError", "RodsError", "LockError", "HingeError", "WaysError", "RefusedError", "CaseError", "WidthError",
    "NothingError",
]


class ErrorsTest(unittest.TestCase):

    def test_base(self):
        self.assertEqual(FoldError.__bases__, (ValueError,))

    def test_direct_subclasses(self):
        for name in WITH_MESSAGE + ["TextError", "ApartError"]:
            with self.subTest(name):
                made = getattr(errors, name)
                self.assertEqual(made.__bases__, (FoldError,))
                self.assertEqual(made.__module__, "rodturns.errors")
                self.assertEqual(made.__name__, name)

    def test_messages(self):
        for name in WITH_MESSAGE:
            with self.subTest(name):
                self.assertEqual(str(getattr(errors, name)("why not")), "why not")

    def test_fields(self):
        wrong = TextError(7)
        self.assertEqual(wrong.place, 7)
        self.assertIn("place", vars(wrong))
        apart = ApartError(("LLR", "LRL"))
        self.assertEqual(apart.closed, ("LLR", "LRL"))
        self.assertIn("closed", vars(apart))


if __name__ == "__main__":
    unittest.main()
