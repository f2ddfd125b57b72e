"""Promise [43]: the search for images."""

import itertools
import types
import unittest

from cayleywalk import search as subject
from cayleywalk.errors import BadNumber, NotPresentation, NotWord
from cayleywalk.images import satisfies, tells_apart
from cayleywalk.search import all_images, count_images, first_images
from samples import NO_PRESENTATIONS, PRESENTATIONS, STRANGERS

FAR = 10 ** 30
SWAPS = (2, ("aa", "bb", "ababab"))


def degrees_of(presentation):
    return range(1, 4) if presentation[0] == 3 else range(1, 5)


def bad_degrees_of(presentation):
    return [0, -1, 5, 8, FAR, -FAR] + ([4] if presentation[0] == 3 else [])


def candidates(g, degree):
    return itertools.product(list(itertools.permutations(range(degree))), repeat=g)


class AllImagesTest(unittest.TestCase):
    def test_complete_and_in_order(self):
        for presentation in PRESENTATIONS:
            for degree in degrees_of(presentation):
                expected = [images for images in candidates(presentation[0], degree) if satisfies(presentation, images)]
                found = list(all_images(presentation, degree))
                self.assertEqual(found, expected)
                self.assertEqual(found, sorted(set(found)))
                self.assertEqual(count_images(presentation, degree), len(expected))

    def test_counts(self):
        self.assertEqual(count_images((1, ()), 4), 24)
        self.assertEqual(count_images((2, ()), 4), 576)
        self.assertEqual(count_images((3, ()), 3), 216)
        self.assertEqual(count_images((1, ("aa",)), 4), 10)
        self.assertEqual(count_images((2, ("abAB",)), 3), 18)
        self.assertEqual(list(all_images((1, ("aa",)), 2)), [((0, 1),), ((1, 0),)])

    def test_generator(self):
        self.assertIsInstance(subject.all_images(SWAPS, 2), types.GeneratorType)

    def test_errors_at_the_first_step(self):
        for value in NO_PRESENTATIONS:
            for degree in (1, 0, 5):
                self.assertRaises(NotPresentation, next, all_images(value, degree))
                self.assertRaises(NotPresentation, count_images, value, degree)
        for presentation in PRESENTATIONS:
            for degree in bad_degrees_of(presentation):
                self.assertRaises(BadNumber, next, all_images(presentation, degree))
                self.assertRaises(BadNumber, count_images, presentation, degree)


class FirstImagesTest(unittest.TestCase):
    def test_examples(self):
        self.assertEqual(first_images((1, ("aa",)), "a", "", most=2), ((1, 0),))
        self.assertIsNone(first_images((1, ("a",)), "a", "", most=4))
        self.assertIsNone(first_images((1, ("aa",)), "a", "", most=1))
        self.assertIsNone(first_images(SWAPS, "ab", "ba", most=2))
        self.assertEqual(first_images(SWAPS, "ab", "ba", most=3), ((0, 2, 1), (1, 0, 2)))

    def test_first_of_all(self):
        pairs = [("", "a"), ("a", "A"), ("aa", ""), ("aaa", ""), ("aA", "")]
        more = [("ab", "ba"), ("a", "b"), ("abab", ""), ("aab", "baa"), ("ab", "Ab")]
        for presentation in PRESENTATIONS:
            for one, other in pairs + (more if presentation[0] > 1 else []):
                telling = []
                for most in degrees_of(presentation):
                    for images in candidates(presentation[0], most):
                        if tells_apart(presentation, images, one, other):
                            telling.append(images)
                    expected = telling[0] if telling else None
                    self.assertEqual(first_images(presentation, one, other, most=most), expected)

    def test_long_words(self):
        self.assertEqual(first_images((1, ()), "a" * 199, "", most=2), ((1, 0),))
        self.assertEqual(first_images((1, ()), "", "a" * 200, most=4), ((1, 2, 0),))
        self.assertRaises(NotWord, first_images, (1, ()), "a" * 201, "", most=2)
        self.assertRaises(NotWord, first_images, (1, ()), "", "a" * 201, most=2)

    def test_order_of_errors(self):
        for value in NO_PRESENTATIONS:
            self.assertRaises(NotPresentation, first_images, value, "a", "a", most=2)
            self.assertRaises(NotPresentation, first_images, value, "x", "a", most=9)
        for text in STRANGERS + ["c", "b" * 201]:
            for most in (2, 0, 9):
                self.assertRaises(NotWord, first_images, SWAPS, text, "a", most=most)
                self.assertRaises(NotWord, first_images, SWAPS, "a", text, most=most)
        for presentation in PRESENTATIONS:
            for most in bad_degrees_of(presentation):
                self.assertRaises(BadNumber, first_images, presentation, "a", "", most=most)
                self.assertRaises(BadNumber, first_images, presentation, "", "", most=most)

    def test_most_is_a_keyword(self):
        with self.assertRaises(TypeError):
            first_images(SWAPS, "a", "", 2)


if __name__ == "__main__":
    unittest.main()
