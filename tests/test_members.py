"""Promises [100], [106], [112] and [113]: members of subgroups, expressions, graphs that tell apart."""

import random
import unittest

from cayleywalk.errors import BadNumber, NotGraph, NotWord, TooLarge
from cayleywalk.folding import folded
from cayleywalk.graphs import is_full, is_graph
from cayleywalk.members import contains, expression, is_expression, told_apart
from row_samples import NO_ROWS, plain_end, products_of, some_rows
from samples import STRANGERS, plain_inverse, plain_reduced, some_words, words_up_to

PAIR = ((1, -1, 1, 1), (-1, 0, 0, 0))

OF_WORDS = [
    expression, told_apart, lambda g, words, word: is_expression(g, words, word, [(99, 7)]),
]


def multiplied(words, pairs):
    factors = [words[k] if sign == 1 else plain_inverse(words[k]) for k, sign in pairs]
    return plain_reduced("".join(factors))


def some_lists(seed, many):
    """Return tuples of a number of generators, a list of words and words to ask for."""
    chance = random.Random(seed)
    found = []
    for at in range(many):
        g = 1 + at % 3
        words = some_words(g, chance.randrange(10 ** 6), chance.randint(0, 8), chance.choice([2, 4, 8, 20]))
        asked = [word for word in products_of(words, chance, 6) if len(word) <= 60]
        asked += some_words(g, chance.randrange(10 ** 6), 6, chance.choice([3, 6, 60]))
        found.append((g, words, asked + ["", "a", "Aa"] + words))
    return found


class MembersTestCase(unittest.TestCase):
    def assert_told_apart(self, g, words, word):
        graph = told_apart(g, words, word)
        self.assertIs(is_graph(g, graph), True)
        self.assertIs(is_full(g, graph), True)
        for text in words:
            self.assertEqual(plain_end(graph, 0, text), 0)
        self.assertNotEqual(plain_end(graph, 0, word), 0)

    def assert_agree(self, g, words, word):
        """Look at what shows that a word belongs to a subgroup or does not; return which."""
        given = list(words)
        pairs = expression(g, words, word)
        member = contains(g, folded(g, words), word)
        if pairs is None:
            self.assertIs(member, False)
            self.assert_told_apart(g, words, word)
        else:
            self.assertIs(member, True)
            self.assertIsNone(told_apart(g, words, word))
            self.assertEqual(multiplied(words, pairs), plain_reduced(word))
            self.assertIs(is_expression(g, words, word, pairs), True)
            self.assertIs(all(0 <= k < len(words) and sign in (1, -1) for k, sign in pairs), True)
            self.assertLessEqual(len(pairs), 2000)
        self.assertEqual(words, given)
        return member


class ContainsTest(MembersTestCase):
    def test_examples(self):
        self.assertIs(contains(2, PAIR, "bb"), True)
        self.assertIs(contains(2, PAIR, "b"), False)
        self.assertIs(contains(2, PAIR, ""), True)
        self.assertIs(contains(2, ((1, 1, 1, 1), (0, 0, 0, 0)), "abbA"), True)
        self.assertIs(contains(2, ((1, 1, 1, 1), (0, 0, 0, 0)), "abA"), False)

    def test_words_that_are_not_reduced(self):
        point = ((-1, -1, -1, -1),)
        for word in ["", "aA", "Bb", "abBA", "AaBb"]:
            self.assertIs(contains(2, point, word), True)
            self.assertIs(contains(2, PAIR, word), True)
        self.assertIs(contains(2, PAIR, "bAaaAb"), True)
        self.assertIs(contains(2, PAIR, "AaB"), False)

    def test_reduced_forms_are_read(self):
        for g, rows in some_rows(61, 60, 5):
            for word in words_up_to(g, 3) + some_words(g, 62, 20, 60):
                self.assertIs(contains(g, rows, word), plain_end(rows, 0, plain_reduced(word)) == 0)

    def test_errors(self):
        for g in (0, 4):
            self.assertRaises(BadNumber, contains, g, (), "x")
        for g, rows in NO_ROWS:
            self.assertRaises(NotGraph, contains, g, rows, "x")
        for word in STRANGERS + ["c", "a" * 61]:
            self.assertRaises(NotWord, contains, 2, PAIR, word)


class ExpressionTest(MembersTestCase):
    def test_examples(self):
        self.assertEqual(expression(2, ["ab", "aB"], "bb"), [(1, -1), (0, 1)])
        self.assertIsNone(expression(2, ["ab", "aB"], "b"))
        self.assertEqual(expression(2, [], ""), [])
        self.assertEqual(expression(2, [], "bB"), [])
        self.assertIsNone(expression(2, [], "b"))
        self.assertIsNone(expression(2, ["", "aA"], "a"))

    def test_members_and_others(self):
        seen = {True: 0, False: 0}
        for g, words, asked in some_lists(63, 90):
            for word in asked:
                seen[self.assert_agree(g, words, word)] += 1
        self.assertGreater(min(seen.values()), 100)

    def test_all_short_words(self):
        for words in [["ab", "aB"], ["aab", "bA", "bbb"], ["abA"], ["aa", "bb", "abab"], ["a", "ab", "abb"], ["", "b"]]:
            for word in words_up_to(2, 4):
                self.assert_agree(2, words, word)

    def test_one_word(self):
        self.assertEqual(expression(1, ["a"], "A" * 60), [(0, -1)] * 60)
        self.assertEqual(expression(2, ["baB"], "b" + "a" * 58 + "B"), [(0, 1)] * 58)
        self.assertEqual(expression(2, ["abBaAA"], "aaA"), None)
        self.assertEqual(expression(2, ["aAb"], "bb"), [(0, 1), (0, 1)])
        for seed, word in enumerate(some_words(3, 64, 40, 20)):
            for times in (-3, -1, 0, 1, 2):
                text = word * times if times >= 0 else plain_inverse(word) * -times
                if len(text) <= 60:
                    self.assertIs(self.assert_agree(3, [word], text), True)
            self.assert_agree(3, [word], some_words(3, seed, 1, 5)[0])

    def test_powers_of_one_letter(self):
        for one in range(1, 13):
            for other in range(1, 13):
                for size in (0, 1, 6, 17):
                    self.assert_agree(1, ["a" * one, "A" * other], "a" * size)

    def test_equal_words(self):
        self.assert_agree(2, ["ab", "ab", "BA", "abbB"], "abab")
        self.assert_agree(2, ["ab"] * 8, "BABA")

    def test_long_words(self):
        words = [("a" * k + "b" * k) * (30 // k) for k in (1, 2, 3, 5, 6, 10, 15, 30)]
        for word in words + [plain_inverse(words[2])] + some_words(2, 65, 5, 60):
            self.assert_agree(2, words, word)

    def test_many_pairs(self):
        # No two of these words cancel, so there is one reduced expression
        # only: b has 5 pairs, and c is four times the inverse of b, and a word.
        words = ["a", "aaaab", "bbbbc"]
        self.assert_agree(3, words, "c")
        self.assertEqual(len(expression(3, words, "c")), 21)

    def test_too_large(self):
        words = ["a", "a" * 12 + "b", "bbbc"]
        self.assertEqual(len(expression(3, words, "c")), 40)
        self.assertEqual(len(expression(3, words, "c" * 50)), 2000)
        self.assert_agree(3, words, "c" * 50)
        self.assertRaises(TooLarge, expression, 3, words, "a" + "c" * 50)
        self.assertRaises(TooLarge, expression, 3, words, "c" * 60)
        self.assertIs(is_expression(3, words, "c", expression(3, words, "c")), True)
        self.assertIsNone(told_apart(3, words, "c" * 60))
        self.assertRaises(TooLarge, expression, 3, ["a" * 49 + "b", "b" * 49 + "c", "a"], "c")

    def test_errors(self):
        for function in OF_WORDS:
            for g in (0, 4):
                self.assertRaises(BadNumber, function, g, ["x"] * 9, "x")
            for word in STRANGERS + ["c", "a" * 61]:
                self.assertRaises(NotWord, function, 2, ["a", word], "b")
                self.assertRaises(NotWord, function, 2, ["a"] * 9 + [word], "b")
                self.assertRaises(NotWord, function, 2, ["a"] * 9, word)
                self.assertRaises(NotWord, function, 2, [], word)
            self.assertRaises(TooLarge, function, 2, ["a"] * 9, "b")
            self.assertRaises(TooLarge, function, 2, [""] * 9, "")


class IsExpressionTest(MembersTestCase):
    def test_right_and_changed(self):
        self.assertIs(is_expression(2, ["ab", "aB"], "bb", [(1, -1), (0, 1)]), True)
        self.assertIs(is_expression(2, ["ab", "aB"], "aAbb", [(1, -1), (0, 1)]), True)
        self.assertIs(is_expression(2, ["ab", "aB"], "bb", [(0, 1), (1, -1)]), False)
        self.assertIs(is_expression(2, ["ab", "aB"], "bb", [(1, 1), (0, 1)]), False)
        self.assertIs(is_expression(2, ["ab", "aB"], "bb", [(1, -1)]), False)
        self.assertIs(is_expression(2, ["ab", "aB"], "bb", [(0, 1), (0, -1), (1, -1), (0, 1)]), True)
        self.assertIs(is_expression(2, ["ab", "aB"], "b", [(1, -1), (0, 1)]), False)

    def test_empty_list(self):
        self.assertIs(is_expression(2, ["ab"], "", []), True)
        self.assertIs(is_expression(2, [], "abBA", []), True)
        self.assertIs(is_expression(2, ["a"], "a", []), False)

    def test_wrong_pairs(self):
        for pair in [(2, 1), (-1, 1), (-2, 1), (10 ** 30, 1), (0, 0), (0, 2), (0, -2), (1, 10 ** 30)]:
            self.assertIs(is_expression(2, ["a", "b"], "a", [pair]), False)
            self.assertIs(is_expression(2, ["a", "b"], "a", [(0, 1), pair]), False)
            self.assertIs(is_expression(2, ["", "a"], "a", [pair, (1, 1)]), False)
        self.assertIs(is_expression(2, [], "", [(0, 1)]), False)

    def test_long_lists(self):
        self.assertIs(is_expression(1, ["a", "a" * 60], "", [(1, 1)] * 3000 + [(1, -1)] * 3000), True)
        self.assertIs(is_expression(1, ["a"], "a" * 60, [(0, 1)] * 60), True)
        self.assertIs(is_expression(1, ["a"], "a" * 60, [(0, 1)] * 61), False)


class ToldApartTest(MembersTestCase):
    def test_examples(self):
        self.assertIsNone(told_apart(2, ["ab", "aB"], "bb"))
        self.assert_told_apart(2, ["ab", "aB"], "b")
        self.assertIsNone(told_apart(2, [], ""))
        self.assertIsNone(told_apart(2, ["a"], "bB"))
        self.assert_told_apart(2, [], "a")
        self.assert_told_apart(3, ["a", "b"], "c")
        self.assert_told_apart(2, ["aa", "bb"], "abBa" + "ab")

    def test_largest(self):
        chance = random.Random(66)
        words = ["".join(chance.choices("aAbBcC", k=60)) for _ in range(8)]
        self.assert_told_apart(3, words, "".join(chance.choices("aAbBcC", k=60)))
        self.assert_told_apart(1, ["a" * 60], "a" * 59)


if __name__ == "__main__":
    unittest.main()
