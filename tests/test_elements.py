"""Promises [180] and [181], and of [188] the words of the elements."""

import unittest

from cayleywalk.cosets import coset_table
from cayleywalk.elements import FiniteGroup
from cayleywalk.errors import BadNumber, NoAnswer, NotPresentation, NotWord
from cayleywalk.letters import letters_of
from group_samples import (
    GROUPS, SIXTY, SIXTY_ONE, SMALL_GROUPS, UNKNOWN, Looked, plain_group, plain_permutation,
)
from row_samples import plain_words
from samples import NO_PRESENTATIONS, STRANGERS, plain_inverse, plain_reduced, some_words, words_up_to

SIX = (2, ("aaa", "bb", "abab"))


def no_elements(group):
    return [-1, len(group), len(group) + 1, 10 ** 30, -10 ** 30]


class MakingTest(unittest.TestCase):
    def test_number_of_elements(self):
        for presentation, images in GROUPS:
            self.assertEqual(len(FiniteGroup(presentation)), len(plain_group(images)))
        self.assertEqual(len(FiniteGroup(SIXTY)), 60)

    def test_presentation(self):
        for presentation, _ in GROUPS:
            self.assertEqual(FiniteGroup(presentation).presentation, presentation)

    def test_no_presentations(self):
        for value in NO_PRESENTATIONS:
            self.assertRaises(NotPresentation, FiniteGroup, value)

    def test_unknown_groups(self):
        for presentation in UNKNOWN:
            self.assertRaises(NoAnswer, FiniteGroup, presentation)
        self.assertEqual(len(coset_table(SIXTY_ONE, [], limit=400)), 61)
        self.assertIsNone(coset_table(UNKNOWN[-1], [], limit=400))


class WordsTest(unittest.TestCase):
    def test_words_of_elements(self):
        for presentation, images in GROUPS:
            group = FiniteGroup(presentation)
            words = plain_words(coset_table(presentation, [], limit=400))
            self.assertEqual([group.word(x) for x in range(len(group))], [words[x] for x in range(len(group))])
            self.assertEqual(group.word(0), "")
            for x in range(len(group)):
                self.assertEqual(group.element(group.word(x)), x)

    def test_elements_are_permutations(self):
        for presentation, images in GROUPS:
            group = FiniteGroup(presentation)
            looked = Looked(group, images)
            self.assertEqual(len(looked.number), len(group))
            g = presentation[0]
            for word in words_up_to(g, 2) + some_words(g, 151, 20, 60):
                self.assertEqual(group.element(word), looked.number[plain_permutation(images, word)])

    def test_cuts_and_relators_change_nothing(self):
        group = FiniteGroup(SIX)
        for word in some_words(2, 153, 30, 40):
            self.assertEqual(group.element(plain_reduced(word)), group.element(word))
            for text in SIX[1]:
                self.assertEqual(group.element(word[:3] + text + word[3:]), group.element(word))

    def test_other_words(self):
        for presentation in [SIX, (1, ("aaa",)), (3, ("abC", "bcA", "caB"))]:
            group = FiniteGroup(presentation)
            others = [letter for letter in "aAbBcC" if letter not in letters_of(presentation[0])]
            for word in STRANGERS + others + ["a" + letter for letter in others]:
                self.assertRaises(NotWord, group.element, word)

    def test_number_of_letters(self):
        for presentation, images in GROUPS:
            group = FiniteGroup(presentation)
            looked = Looked(group, images)
            for letter in letters_of(presentation[0]):
                for word in [letter * 60, letter * 59, ("aA" * 30)[1:] + letter]:
                    self.assertEqual(group.element(word), looked.element_of(images, word))
                for size in (61, 62, 120, 200, 201, 1000):
                    self.assertRaises(NotWord, group.element, letter * size)
            for word in ["aA" * 30 + "a", "aA" * 100, "Aa" * 31]:
                self.assertRaises(NotWord, group.element, word)
            self.assertEqual(group.element("aA" * 30), 0)

    def test_words_of_two_elements_are_taken(self):
        # In no known group are the words of two elements longer together than a word that is taken.
        for presentation, _ in GROUPS + [(SIXTY, None)]:
            group = FiniteGroup(presentation)
            words = [group.word(x) for x in range(len(group))]
            longest = max(range(len(group)), key=lambda x: len(words[x]))
            for x in range(len(group)):
                self.assertEqual(group.product(longest, x), group.element(words[longest] + words[x]))


class ProductsTest(unittest.TestCase):
    def test_products_and_inverses(self):
        for presentation, images in GROUPS:
            group = FiniteGroup(presentation)
            looked = Looked(group, images)
            step = 1 if len(group) <= 30 else 7
            for x in range(len(group)):
                self.assertEqual(group.inverse(x), looked.inverse(x))
                for y in range(0, len(group), step):
                    self.assertEqual(group.product(x, y), looked.product(x, y))
                    self.assertIs(group.commute(x, y), looked.product(x, y) == looked.product(y, x))

    def test_told_by_words(self):
        for presentation, _ in SMALL_GROUPS:
            group = FiniteGroup(presentation)
            for x in range(len(group)):
                self.assertEqual(group.inverse(x), group.element(plain_inverse(group.word(x))))
                for y in range(len(group)):
                    self.assertEqual(group.product(x, y), group.element(group.word(x) + group.word(y)))

    def test_powers(self):
        for presentation, images in SMALL_GROUPS:
            group = FiniteGroup(presentation)
            looked = Looked(group, images)
            for x in range(len(group)):
                there = back = 0
                for exponent in range(15):
                    self.assertEqual(group.power(x, exponent), there)
                    self.assertEqual(group.power(x, -exponent), back)
                    there, back = looked.product(there, x), looked.product(back, looked.inverse(x))

    def test_orders(self):
        for presentation, images in GROUPS:
            group = FiniteGroup(presentation)
            looked = Looked(group, images)
            for x in range(len(group)):
                order = group.order(x)
                powers = [0]
                while len(powers) < order:
                    powers.append(looked.product(powers[-1], x))
                self.assertEqual(len(set(powers)), order)
                self.assertEqual(looked.product(powers[-1], x), 0)
                self.assertEqual(len(group) % order, 0)
            self.assertEqual(group.order(0), 1)

    def test_great_exponents(self):
        for presentation, _ in GROUPS:
            group = FiniteGroup(presentation)
            for x in range(len(group)):
                order = group.order(x)
                for exponent in (10 ** 30, -10 ** 30, 10 ** 100 + 7, -10 ** 100 - 7):
                    self.assertEqual(group.power(x, exponent), group.power(x, exponent % order))
                self.assertEqual(group.power(x, order * 10 ** 40), 0)
                self.assertEqual(group.power(x, order * 10 ** 40 - 1), group.inverse(x))


class NoElementsTest(unittest.TestCase):
    def test_numbers_that_are_no_elements(self):
        for presentation in [SIX, (1, ("a",)), SIXTY]:
            group = FiniteGroup(presentation)
            for bad in no_elements(group):
                for function in (group.word, group.inverse, group.order):
                    self.assertRaises(BadNumber, function, bad)
                for exponent in (0, 1, -1, 10 ** 30):
                    self.assertRaises(BadNumber, group.power, bad, exponent)
                for function in (group.product, group.commute):
                    self.assertRaises(BadNumber, function, bad, 0)
                    self.assertRaises(BadNumber, function, 0, bad)
                    self.assertRaises(BadNumber, function, bad, bad)


class ExamplesTest(unittest.TestCase):
    def test_six_elements(self):
        group = FiniteGroup(SIX)
        self.assertEqual([group.word(x) for x in range(len(group))], ["", "a", "A", "b", "ab", "Ab"])
        self.assertEqual([group.order(x) for x in range(6)], [1, 3, 3, 2, 2, 2])
        self.assertEqual(group.product(1, 3), 4)
        self.assertEqual(group.product(3, 1), 5)
        self.assertIs(group.commute(1, 2), True)
        self.assertIs(group.commute(1, 3), False)


if __name__ == "__main__":
    unittest.main()
