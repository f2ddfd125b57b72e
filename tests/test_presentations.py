"""Promise [20]: presentations and their relators."""

import unittest

from cayleywalk.errors import BadNumber, NotPresentation
from cayleywalk.presentations import check_presentation, is_presentation, relator
from samples import NO_PRESENTATIONS, PRESENTATIONS, plain_inverse


class PresentationsTest(unittest.TestCase):
    def test_presentations(self):
        edges = [(1, ("a" * 20,)), (3, ("C",) * 8), (2, ("aA", "bB")), (3, ("abc", "abc"))]
        for presentation in PRESENTATIONS + edges:
            self.assertIs(is_presentation(presentation), True)
            self.assertIsNone(check_presentation(presentation))

    def test_no_presentations(self):
        for value in NO_PRESENTATIONS:
            self.assertIs(is_presentation(value), False)
            self.assertRaises(NotPresentation, check_presentation, value)

    def test_each_relator_is_looked_at(self):
        for at in range(8):
            relators = ["ab"] * 8
            for wrong in ["", "c", "b" * 21]:
                relators[at] = wrong
                self.assertIs(is_presentation((2, tuple(relators))), False)


class RelatorTest(unittest.TestCase):
    def test_both_signs(self):
        for presentation in PRESENTATIONS:
            for k, text in enumerate(presentation[1]):
                self.assertEqual(relator(presentation, k, 1), text)
                self.assertEqual(relator(presentation, k, -1), plain_inverse(text))

    def test_not_reduced(self):
        self.assertEqual(relator((1, ("aAa",)), 0, 1), "aAa")
        self.assertEqual(relator((1, ("aAa",)), 0, -1), "AaA")

    def test_wrong_numbers(self):
        presentation = (2, ("aa", "bb"))
        for k in [2, -1, -2, 3, 10 ** 30, -(10 ** 30)]:
            self.assertRaises(BadNumber, relator, presentation, k, 1)
            self.assertRaises(BadNumber, relator, presentation, k, -1)
        for sign in [0, 2, -2, 10 ** 30, -(10 ** 30)]:
            self.assertRaises(BadNumber, relator, presentation, 0, sign)
        self.assertRaises(BadNumber, relator, (3, ()), 0, 1)

    def test_presentation_before_numbers(self):
        for value in NO_PRESENTATIONS:
            self.assertRaises(NotPresentation, relator, value, 0, 1)
            self.assertRaises(NotPresentation, relator, value, -1, 1)
            self.assertRaises(NotPresentation, relator, value, 0, 5)


if __name__ == "__main__":
    unittest.main()
