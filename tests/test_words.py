"""Promises [2] to [8]: words over three generators."""

import random
import types
import unittest

from cayleywalk import words as subject
from cayleywalk.errors import BadNumber, NoAnswer, NotWord
from cayleywalk.words import (
    comes_before, commute, core_of, in_order, inverse, is_reduced, least_rotation, power, product, reduced,
    reduced_words, root_of, rotations,
)
from samples import STRANGERS, pair_places, plain_inverse, plain_reduced, some_words, words_up_to

ONE_WORD = [inverse, reduced, is_reduced, core_of, rotations, least_rotation, root_of]
TWO_WORDS = [product, comes_before, commute]


class WrongWordsTest(unittest.TestCase):
    def test_one_word(self):
        for function in ONE_WORD:
            for text in STRANGERS + ["a" * 61, "abC" * 21]:
                self.assertRaises(NotWord, function, text)
            self.assertIsNotNone(function("abC" * 20))

    def test_two_words(self):
        for function in TWO_WORDS:
            for text in STRANGERS + ["c" * 61]:
                self.assertRaises(NotWord, function, text, "a")
                self.assertRaises(NotWord, function, "a", text)
                self.assertRaises(NotWord, function, text, "")
                self.assertRaises(NotWord, function, "", text)
            self.assertIsNotNone(function("c" * 60, "B" * 60))

    def test_lists(self):
        for text in STRANGERS + ["c" * 61]:
            self.assertRaises(NotWord, in_order, [text])
            self.assertRaises(NotWord, in_order, ["a", "", text])
            self.assertRaises(NotWord, in_order, [text, "a"])

    def test_power(self):
        for text in STRANGERS + ["c" * 61]:
            self.assertRaises(NotWord, power, text, 1)
            self.assertRaises(NotWord, power, text, 0)
            self.assertRaises(NotWord, power, text, 21)
            self.assertRaises(NotWord, power, text, -21)


class InverseTest(unittest.TestCase):
    def test_inverses(self):
        self.assertEqual(inverse("aB"), "bA")
        self.assertEqual(inverse(""), "")
        self.assertEqual(inverse("aA"), "aA")
        self.assertEqual(inverse("abcABC"), "cbaCBA")

    def test_inverse_of_the_inverse(self):
        for word in words_up_to(2, 4) + some_words(3, 1, 200, 60):
            self.assertEqual(inverse(word), plain_inverse(word))
            self.assertEqual(inverse(inverse(word)), word)


class ReducedTest(unittest.TestCase):
    def test_reduced_forms(self):
        self.assertEqual(reduced("abBAa"), "a")
        self.assertEqual(reduced(""), "")
        self.assertEqual(reduced("aA"), "")
        self.assertEqual(reduced("aAa"), "a")
        self.assertEqual(reduced("abcCBA" * 10), "")
        self.assertEqual(reduced("aBc" * 20), "aBc" * 20)

    def test_cuts_at_any_places(self):
        chance = random.Random(3)
        for word in words_up_to(2, 5) + some_words(3, 2, 200, 60) + some_words(1, 3, 50, 60):
            rest = word
            while pair_places(rest):
                at = chance.choice(pair_places(rest))
                rest = rest[:at] + rest[at + 2:]
            self.assertEqual(reduced(word), rest)
            self.assertIs(is_reduced(rest), True)
            self.assertIs(is_reduced(word), word == rest)

    def test_is_reduced(self):
        for word in ["", "a", "aa", "abAB", "Ab", "cb"]:
            self.assertIs(is_reduced(word), True)
        for word in ["aA", "Aa", "abBa", "ccC", "Bb"]:
            self.assertIs(is_reduced(word), False)

    def test_insertions_keep_the_reduced_form(self):
        for word in words_up_to(2, 3):
            for at in range(len(word) + 1):
                for pair in ["aA", "Bb", "cC"]:
                    self.assertEqual(reduced(word[:at] + pair + word[at:]), reduced(word))

    def test_word_and_its_inverse(self):
        for word in some_words(3, 4, 100, 30):
            self.assertEqual(reduced(word + inverse(word)), "")
            self.assertEqual(reduced(inverse(word) + word), "")


class ProductTest(unittest.TestCase):
    def test_products(self):
        self.assertEqual(product("ab", "BA"), "")
        self.assertEqual(product("ab", "Ba"), "aa")
        self.assertEqual(product("", ""), "")
        self.assertEqual(product("aA", "b"), "b")
        self.assertEqual(product("a" * 60, "b" * 60), "a" * 60 + "b" * 60)

    def test_brackets(self):
        words = some_words(2, 5, 60, 20)
        for one, other, third in zip(words, words[20:], words[40:]):
            left = product(product(one, other), third)
            self.assertEqual(left, product(one, product(other, third)))
            self.assertEqual(left, plain_reduced(one + other + third))

    def test_inverse_of_a_product(self):
        for one in words_up_to(2, 2):
            for other in words_up_to(2, 2):
                self.assertEqual(inverse(product(one, other)), product(inverse(other), inverse(one)))


class PowerTest(unittest.TestCase):
    def test_powers(self):
        self.assertEqual(power("ab", 0), "")
        self.assertEqual(power("ab", 1), "ab")
        self.assertEqual(power("ab", -1), "BA")
        self.assertEqual(power("abA", 3), "abbbA")
        self.assertEqual(power("abA", -2), "aBBA")
        self.assertEqual(power("abBc", 1), "ac")
        self.assertEqual(power("", 20), "")
        self.assertEqual(power("aA", -20), "")

    def test_edges_of_the_exponent(self):
        self.assertEqual(power("c" * 60, 20), "c" * 1200)
        self.assertEqual(power("c" * 60, -20), "C" * 1200)
        for exponent in [21, -21, 1000, 10 ** 30, -(10 ** 30)]:
            self.assertRaises(BadNumber, power, "a", exponent)
            self.assertRaises(BadNumber, power, "", exponent)

    def test_powers_add_up(self):
        for word in ["a", "ab", "abA", "aBA", "abcBA", "aA", ""]:
            for one in range(-4, 5):
                for other in range(-4, 5):
                    self.assertEqual(product(power(word, one), power(word, other)), power(word, one + other))

    def test_copies(self):
        for word in some_words(3, 6, 20, 12):
            for exponent in range(-20, 21):
                base = word if exponent >= 0 else plain_inverse(word)
                self.assertEqual(power(word, exponent), plain_reduced(base * abs(exponent)))


class OrderTest(unittest.TestCase):
    def test_examples(self):
        self.assertIs(comes_before("A", "b"), True)
        self.assertIs(comes_before("b", "ab"), True)
        self.assertIs(comes_before("AB", "Ab"), False)
        self.assertIs(comes_before("Ab", "AB"), True)
        self.assertIs(comes_before("", "a"), True)
        self.assertIs(comes_before("", ""), False)
        self.assertIs(comes_before("C", "aa"), True)
        self.assertIs(comes_before("aa", "C"), False)

    def test_all_short_words(self):
        words = words_up_to(2, 3)
        for at, one in enumerate(words):
            for place, other in enumerate(words):
                self.assertIs(comes_before(one, other), at < place)

    def test_in_order(self):
        words = ["ba", "", "B", "ab", "A", "B", "aB", "", "c"]
        given = list(words)
        self.assertEqual(in_order(given), ["", "", "A", "B", "B", "c", "ab", "aB", "ba"])
        self.assertEqual(given, words)
        self.assertIsNot(in_order(given), given)
        self.assertEqual(in_order([]), [])

    def test_in_order_of_all_short_words(self):
        words = words_up_to(3, 2)
        mixed = list(words) * 2
        random.Random(8).shuffle(mixed)
        before = list(mixed)
        self.assertEqual(in_order(mixed), [word for word in words for _ in range(2)])
        self.assertEqual(mixed, before)


class CoreTest(unittest.TestCase):
    def test_cores(self):
        self.assertEqual(core_of("abaBA"), ("ab", "a"))
        self.assertEqual(core_of(""), ("", ""))
        self.assertEqual(core_of("aA"), ("", ""))
        self.assertEqual(core_of("ab"), ("", "ab"))
        self.assertEqual(core_of("abA"), ("a", "b"))
        self.assertEqual(core_of("cabCAcCc"), ("", "cabCAc"))
        self.assertEqual(core_of("bBabBbA"), ("a", "b"))

    def test_stem_core_and_inverse_stem(self):
        for word in words_up_to(2, 5) + some_words(3, 9, 200, 60):
            stem, core = core_of(word)
            self.assertEqual(stem + core + inverse(stem), plain_reduced(word))
            if core:
                self.assertNotEqual(core[0], core[-1].swapcase())
            else:
                self.assertEqual((stem, plain_reduced(word)), ("", ""))


class RotationsTest(unittest.TestCase):
    def test_rotations(self):
        self.assertEqual(rotations("abc"), ["abc", "bca", "cab"])
        self.assertEqual(rotations(""), [""])
        self.assertEqual(rotations("aa"), ["aa", "aa"])
        self.assertEqual(rotations("aAb"), ["aAb", "Aba", "baA"])
        self.assertEqual(rotations("b"), ["b"])

    def test_least_rotation(self):
        self.assertEqual(least_rotation("ba"), "ab")
        self.assertEqual(least_rotation(""), "")
        self.assertEqual(least_rotation("bAa"), "abA")
        self.assertEqual(least_rotation("BbAC"), "ACBb")
        self.assertEqual(least_rotation("Bb"), "bB")

    def test_least_of_all(self):
        for word in words_up_to(2, 4):
            turned = rotations(word)
            self.assertEqual(len(turned), max(1, len(word)))
            self.assertEqual(least_rotation(word), in_order(turned)[0])
            for other in turned:
                self.assertEqual(least_rotation(other), least_rotation(word))


class RootTest(unittest.TestCase):
    def test_roots(self):
        self.assertEqual(root_of("abab"), ("ab", 2))
        self.assertEqual(root_of("abbA"), ("abA", 2))
        self.assertEqual(root_of("a"), ("a", 1))
        self.assertEqual(root_of("A" * 60), ("A", 60))
        self.assertEqual(root_of("abA"), ("abA", 1))
        self.assertEqual(root_of("aAbb"), ("b", 2))
        self.assertEqual(root_of("aabaab"), ("aab", 2))
        self.assertEqual(root_of("abcabcab"), ("abcabcab", 1))

    def test_words_that_reduce_to_nothing(self):
        for word in ["", "aA", "abBA", "cC" * 30]:
            self.assertRaises(NoAnswer, root_of, word)

    def test_greatest_exponent(self):
        short = [word for word in words_up_to(2, 3) if plain_reduced(word) == word and word]
        powers = {}
        for word in short:
            for exponent in range(1, 7):
                text = power(word, exponent)
                powers[text] = max(powers.get(text, 0), exponent)
        for text in short:
            root, exponent = root_of(text)
            self.assertEqual(power(root, exponent), text)
            self.assertEqual(exponent, powers[text])

    def test_root_of_a_power(self):
        for word in some_words(3, 10, 60, 6):
            if plain_reduced(word):
                root, exponent = root_of(word)
                self.assertEqual(root_of(power(root, 4)), (root, 4))
                self.assertEqual(root_of(power(word, 3)), (root, 3 * exponent))


class CommuteTest(unittest.TestCase):
    def test_words(self):
        self.assertIs(commute("aa", "AAA"), True)
        self.assertIs(commute("a", "b"), False)
        self.assertIs(commute("", "abC"), True)
        self.assertIs(commute("aA", "b"), True)
        self.assertIs(commute("abab", "BA"), True)
        self.assertIs(commute("abA", "abbA"), True)
        self.assertIs(commute("ab", "ba"), False)

    def test_by_roots(self):
        words = [word for word in words_up_to(2, 3) if plain_reduced(word) == word]
        for one in words:
            for other in words:
                by_roots = one == "" or other == ""
                if not by_roots:
                    by_roots = root_of(other)[0] in (root_of(one)[0], inverse(root_of(one)[0]))
                self.assertIs(commute(one, other), by_roots)


class ReducedWordsTest(unittest.TestCase):
    def test_short_ones(self):
        self.assertEqual(list(reduced_words(1, 2)), ["aa", "AA"])
        self.assertEqual(list(reduced_words(2, 1)), ["a", "A", "b", "B"])
        for g in (1, 2, 3):
            self.assertEqual(list(reduced_words(g, 0)), [""])

    def test_all_of_them(self):
        for g, longest in [(1, 6), (2, 4), (3, 3)]:
            everything = words_up_to(g, longest)
            for length in range(longest + 1):
                expected = [word for word in everything if len(word) == length and not pair_places(word)]
                self.assertEqual(list(reduced_words(g, length)), expected)

    def test_how_many(self):
        for g in (1, 2, 3):
            for length in range(1, 7):
                found = list(reduced_words(g, length))
                self.assertEqual(len(found), 2 * g * (2 * g - 1) ** (length - 1))
                self.assertEqual(len(set(found)), len(found))
                self.assertEqual(in_order(found), found)

    def test_error_at_the_first_step(self):
        wrong = [(0, 1), (4, 1), (-1, 0), (1, 7), (2, -1), (3, 10 ** 30), (0, 9), (1, -(10 ** 30))]
        for g, length in wrong:
            steps = reduced_words(g, length)
            self.assertRaises(BadNumber, next, steps)

    def test_generator(self):
        self.assertIsInstance(subject.reduced_words(2, 2), types.GeneratorType)


if __name__ == "__main__":
    unittest.main()
