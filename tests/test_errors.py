"""The error classes of the interface."""

import unittest

from cayleywalk import errors

WITH_MESSAGE = [
    "NotWord", "NotPresentation", "NotImages", "NotWeights", "NotTable", "NotGraph", "NotMachine", "BadMatrix",
    "BadNumber", "TooLarge", "NoAnswer", "NotName", "NotComplete", "NotSound", "NotSubgroup", "NotMap", "OpenTrial",
]


class ErrorsTest(unittest.TestCase):
    def test_base_class(self):
        self.assertEqual(errors.CayleyError.__bases__, (ValueError,))

    def test_errors_with_a_message(self):
        for name in WITH_MESSAGE:
            made = getattr(errors, name)
            self.assertEqual(made.__bases__, (errors.CayleyError,))
            self.assertEqual(str(made("why")), "why")

    def test_errors_with_a_place(self):
        for name in ["BadMove", "NotRule", "Malformed"]:
            made = getattr(errors, name)
            self.assertEqual(made.__bases__, (errors.CayleyError,))
            self.assertEqual(made(7).at, 7)

    def test_error_with_a_row(self):
        self.assertEqual(errors.BadJournal.__bases__, (errors.CayleyError,))
        self.assertEqual(errors.BadJournal(3).row, 3)


if __name__ == "__main__":
    unittest.main()
