"""Promises [60] to [63] and [65]: sums, weights, combinations, invariants."""

import random
import unittest

from cayleywalk.errors import BadNumber, NotPresentation, NotWeights, NotWord
from cayleywalk.lattice import diagonal_form
from cayleywalk.weights import combination, fits, invariants, sums_of, weight_of, weights_apart
from samples import NO_PRESENTATIONS, PRESENTATIONS, STRANGERS, plain_reduced, random_walk, some_words, words_up_to

FAR = 10 ** 30
SWAPS = (2, ("aa", "bb", "ababab"))
WRONG_WEIGHTS = [
    (1, (1, 2)), (-1, (1, 2)), (-2, (1, 2)), (-FAR, (1, 2)), (1, (0, 0)), (0, ()), (3, ()), (0, (1, 2, 3, 4)),
    (2, (0,) * 5), (1, ()),
]


def plain_sums(g, word):
    return [word.count(small) - word.count(small.upper()) for small in "abc"[:g]]


def plain_weight(weights, word):
    modulus, numbers = weights
    total = sum(number * times for number, times in zip(numbers, plain_sums(len(numbers), word)))
    return total % modulus if modulus else total


def random_presentations(seed, many):
    chance = random.Random(seed)
    found = []
    for _ in range(many):
        g = chance.randint(1, 3)
        words = some_words(g, chance.randint(0, 10 ** 9), chance.randint(0, 8), 20)
        found.append((g, tuple(word for word in words if word)))
    return found


class SumsTest(unittest.TestCase):
    def test_sums(self):
        self.assertEqual(sums_of(2, "abAAb"), [-1, 2])
        self.assertEqual(sums_of(1, ""), [0])
        self.assertEqual(sums_of(3, "aBc"), [1, -1, 1])
        self.assertEqual(sums_of(3, "a"), [1, 0, 0])
        self.assertEqual(sums_of(1, "A" * 60), [-60])

    def test_cuts_and_products(self):
        for g in (1, 2, 3):
            words = some_words(g, 41, 40, 30)
            for one, other in zip(words, words[1:]):
                self.assertEqual(sums_of(g, one), plain_sums(g, one))
                self.assertEqual(sums_of(g, plain_reduced(one)), sums_of(g, one))
                both = [plus + more for plus, more in zip(sums_of(g, one), sums_of(g, other))]
                self.assertEqual(sums_of(g, plain_reduced(one + other)), both)

    def test_errors(self):
        for g in [0, 4, -1, FAR, -FAR]:
            for word in ["", "a", "x", "a" * 61]:
                self.assertRaises(BadNumber, sums_of, g, word)
        for g in (1, 2, 3):
            for word in STRANGERS + ["a" * 61]:
                self.assertRaises(NotWord, sums_of, g, word)
        self.assertRaises(NotWord, sums_of, 1, "b")
        self.assertRaises(NotWord, sums_of, 2, "C")


class WeightOfTest(unittest.TestCase):
    def test_weights(self):
        self.assertEqual(weight_of((3, (1, 2)), "abb"), 2)
        self.assertEqual(weight_of((0, (1, 2)), "AB"), -3)
        self.assertEqual(weight_of((3, (1, 2)), "AB"), 0)
        self.assertEqual(weight_of((5, (1,)), "A"), 4)
        self.assertEqual(weight_of((2, (0,)), ""), 0)
        self.assertEqual(weight_of((0, (FAR, -FAR, 1)), "aBc"), 2 * FAR + 1)
        self.assertEqual(weight_of((FAR, (-1,)), "a"), FAR - 1)
        self.assertEqual(weight_of((7, (-FAR, FAR)), "aab"), -FAR % 7)

    def test_many(self):
        for weights in [(0, (4, -7)), (2, (4, -7)), (12, (FAR, -1)), (5, (0, 0))]:
            for word in words_up_to(2, 4):
                self.assertEqual(weight_of(weights, word), plain_weight(weights, word))

    def test_errors(self):
        for weights in WRONG_WEIGHTS:
            for word in ["", "a", "x", "a" * 61]:
                self.assertRaises(NotWeights, weight_of, weights, word)
        for word in STRANGERS + ["c", "a" * 61]:
            self.assertRaises(NotWord, weight_of, (0, (1, 2)), word)
        self.assertRaises(NotWord, weight_of, (2, (1,)), "b")
        self.assertEqual(weight_of((0, (1,)), "a" * 60), 60)


class FitsTest(unittest.TestCase):
    def test_fits(self):
        self.assertIs(fits(SWAPS, (2, (1, 1))), True)
        self.assertIs(fits(SWAPS, (0, (1, 1))), False)
        self.assertIs(fits(SWAPS, (0, (0, 0))), True)
        self.assertIs(fits(SWAPS, (2, (1, 0))), False)
        self.assertIs(fits((2, ("abAB",)), (0, (FAR, -7))), True)
        self.assertIs(fits((1, ()), (0, (5,))), True)
        self.assertIs(fits((1, ("a" * 20,)), (20, (-FAR,))), True)
        self.assertIs(fits((1, ("a" * 20,)), (21, (1,))), False)

    def test_each_relator(self):
        for presentation in PRESENTATIONS + random_presentations(42, 60):
            for modulus in (0, 2, 3, 4, 5, 6):
                weights = (modulus, (1, 3, -2)[:presentation[0]])
                fine = all(plain_weight(weights, text) == 0 for text in presentation[1])
                self.assertIs(fits(presentation, weights), fine)

    def test_moves_do_not_change_the_weight(self):
        for seed, word in enumerate(some_words(2, 43, 20, 6)):
            end = random_walk(SWAPS, word, seed, 8)[1]
            self.assertEqual(plain_weight((2, (1, 1)), word), plain_weight((2, (1, 1)), end))
            self.assertIsNone(weights_apart(SWAPS, word, end))

    def test_errors(self):
        for value in NO_PRESENTATIONS:
            for weights in [(2, (1, 1)), (1, (1, 1)), (0, ())]:
                self.assertRaises(NotPresentation, fits, value, weights)
        for weights in WRONG_WEIGHTS + [(0, (1,)), (2, (1, 1, 1)), (0, (0, 0, 0))]:
            self.assertRaises(NotWeights, fits, SWAPS, weights)
        self.assertRaises(NotWeights, fits, (2, ()), (0, (1,)))


class ApartOrCombinedTest(unittest.TestCase):
    def assert_one_of_both(self, presentation, one, other):
        g, relators = presentation
        weights = weights_apart(presentation, one, other)
        numbers = combination(presentation, one, other)
        self.assertIs(weights is None, numbers is not None)
        if numbers is None:
            modulus, each = weights
            self.assertTrue(modulus == 0 or modulus >= 2)
            self.assertIsInstance(each, tuple)
            self.assertEqual(len(each), g)
            self.assertTrue(all(plain_weight(weights, text) == 0 for text in relators))
            self.assertNotEqual(plain_weight(weights, one), plain_weight(weights, other))
            self.assertIs(fits(presentation, weights), True)
        else:
            self.assertIsInstance(numbers, list)
            self.assertEqual(len(numbers), len(relators))
            rows = [plain_sums(g, text) for text in relators]
            value = [sum(number * row[k] for number, row in zip(numbers, rows)) for k in range(g)]
            difference = [plus - minus for plus, minus in zip(plain_sums(g, one), plain_sums(g, other))]
            self.assertEqual(value, difference)
        return weights

    def test_examples(self):
        self.assertIsNotNone(self.assert_one_of_both(SWAPS, "a", ""))
        self.assertIsNone(self.assert_one_of_both(SWAPS, "ab", ""))
        self.assertIsNotNone(self.assert_one_of_both((1, ()), "a", ""))
        self.assertIsNone(self.assert_one_of_both((1, ()), "a", "aaA"))
        self.assertEqual(combination((1, ()), "a", "aaA"), [])
        self.assertIsNone(self.assert_one_of_both((1, ("aaa", "aaaaa")), "a", ""))
        self.assertIsNotNone(self.assert_one_of_both((1, ("aaaa", "aaaaaa")), "a", ""))

    def test_short_words(self):
        for presentation in PRESENTATIONS:
            for one in words_up_to(presentation[0], 2):
                for other in ["", "a", "AA"]:
                    self.assert_one_of_both(presentation, one, other)
                    self.assert_one_of_both(presentation, other, one)

    def test_random_presentations(self):
        answers = []
        for seed, presentation in enumerate(random_presentations(44, 150)):
            words = some_words(presentation[0], seed, 6, 60)
            for one, other in zip(words, words[1:]):
                answers.append(self.assert_one_of_both(presentation, one, other) is None)
        self.assertTrue(any(answers))
        self.assertFalse(all(answers))

    def test_words_of_200_letters(self):
        self.assertIsNotNone(self.assert_one_of_both((1, ("a" * 7,)), "a" * 200, ""))
        self.assertIsNone(self.assert_one_of_both((1, ("a" * 8,)), "", "A" * 200))
        self.assertIsNone(self.assert_one_of_both((2, ("abAB", "aaB")), "a" * 200, "ab" * 66 + "aa"))
        for function in (weights_apart, combination):
            self.assertRaises(NotWord, function, (1, ()), "a" * 201, "")
            self.assertRaises(NotWord, function, (1, ()), "", "a" * 201)

    def test_errors(self):
        for function in (weights_apart, combination):
            for value in NO_PRESENTATIONS:
                self.assertRaises(NotPresentation, function, value, "a", "a")
                self.assertRaises(NotPresentation, function, value, "x", "a" * 201)
            for word in STRANGERS + ["c", "abC"]:
                self.assertRaises(NotWord, function, SWAPS, word, "a")
                self.assertRaises(NotWord, function, SWAPS, "a", word)
                self.assertRaises(NotWord, function, SWAPS, word, word)


class InvariantsTest(unittest.TestCase):
    def test_examples(self):
        self.assertEqual(invariants((2, ("abAB",))), [0, 0])
        self.assertEqual(invariants((1, ("aaaa", "aaaaaa"))), [2])
        self.assertEqual(invariants((2, ("aa", "bbbb"))), [2, 4])
        self.assertEqual(invariants((1, ("a",))), [])

    def test_no_relators(self):
        for g in (1, 2, 3):
            self.assertEqual(invariants((g, ())), [0] * g)

    def test_few_and_many_relators(self):
        self.assertEqual(invariants((3, ("aa",))), [2, 0, 0])
        self.assertEqual(invariants((3, ("a",))), [0, 0])
        self.assertEqual(invariants((3, ("aab", "abAB"))), [0, 0])
        self.assertEqual(invariants((2, ("aa", "bbb"))), [6])
        self.assertEqual(invariants((2, ("aa", "aa", "aa", "AA", "aA", "bB", "aaaa", "abAB"))), [2, 0])
        self.assertEqual(invariants((3, ("aa", "bb", "cc", "abc"))), [2, 2])
        self.assertEqual(invariants((2, ("aB", "bA"))), [0])
        self.assertEqual(invariants((3, ("aAbB",) * 8)), [0, 0, 0])

    def test_by_the_diagonal(self):
        for presentation in random_presentations(45, 80):
            g, relators = presentation
            diagonal = diagonal_form([plain_sums(g, text) for text in relators], g)[1]
            entries = [diagonal[at][at] for at in range(min(len(relators), g))]
            zeros = entries.count(0) + max(0, g - len(relators))
            self.assertEqual(invariants(presentation), [entry for entry in entries if entry > 1] + [0] * zeros)

    def test_changes(self):
        # A further generator with its relator, and a relator that follows, change nothing.
        for g, relators in random_presentations(46, 60):
            if g < 3 and len(relators) < 7:
                known = invariants((g, relators))
                further = "abc"[g].upper()
                self.assertEqual(invariants((g + 1, relators + ("aaA" + further,))), known)
                self.assertEqual(invariants((g, relators + ("aA",))), known)
                if relators:
                    self.assertEqual(invariants((g, relators + relators[:1])), known)

    def test_not_presentations(self):
        for value in NO_PRESENTATIONS:
            self.assertRaises(NotPresentation, invariants, value)


if __name__ == "__main__":
    unittest.main()
