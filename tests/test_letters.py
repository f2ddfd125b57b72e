"""Promise [1] and the order of [5]: letters, words as strings, shortlex_key."""

import unittest

from cayleywalk.errors import BadNumber, NotWord
from cayleywalk.letters import check_word, inverse_letter, is_word, letters_of, rank_of, shortlex_key
from samples import STRANGERS, words_up_to

NO_NUMBERS = [0, 4, -1, 5, 10 ** 30, -(10 ** 30), 10 ** 5000]
NO_LETTERS = ["", "aA", "aa", "aAbBcC", "bB", "d", "D", "x", " ", "1", "-"]


class LettersTest(unittest.TestCase):
    def test_letters_in_order(self):
        self.assertEqual(letters_of(1), "aA")
        self.assertEqual(letters_of(2), "aAbB")
        self.assertEqual(letters_of(3), "aAbBcC")

    def test_other_numbers_of_generators(self):
        for g in NO_NUMBERS:
            self.assertRaises(BadNumber, letters_of, g)
            self.assertRaises(BadNumber, is_word, g, "a")
            self.assertRaises(BadNumber, is_word, g, "")
            self.assertRaises(BadNumber, check_word, g, "a")
            self.assertRaises(BadNumber, check_word, g, "x")
            self.assertRaises(BadNumber, check_word, g, "a" * 61)

    def test_inverse_letters(self):
        self.assertEqual([inverse_letter(x) for x in "aAbBcC"], list("AaBbCc"))

    def test_ranks(self):
        self.assertEqual([rank_of(x) for x in "aAbBcC"], [0, 1, 2, 3, 4, 5])

    def test_no_letters(self):
        for text in NO_LETTERS:
            self.assertRaises(NotWord, inverse_letter, text)
            self.assertRaises(NotWord, rank_of, text)


class WordsAsStringsTest(unittest.TestCase):
    def test_words(self):
        for text in ["", "a", "A", "aA", "Aa" * 30, "a" * 61, "A" * 1000]:
            for g in (1, 2, 3):
                self.assertIs(is_word(g, text), True)

    def test_letters_of_further_generators(self):
        self.assertIs(is_word(1, "ab"), False)
        self.assertIs(is_word(1, "B"), False)
        self.assertIs(is_word(2, "ab"), True)
        self.assertIs(is_word(2, "bC"), False)
        self.assertIs(is_word(2, "c" * 100), False)
        self.assertIs(is_word(3, "bC"), True)

    def test_other_strings(self):
        for text in STRANGERS:
            for g in (1, 2, 3):
                self.assertIs(is_word(g, text), False)
                self.assertRaises(NotWord, check_word, g, text)

    def test_limit_of_60_letters(self):
        for g in (1, 2, 3):
            last = letters_of(g)[-1]
            self.assertIsNone(check_word(g, ""))
            self.assertIsNone(check_word(g, last * 59))
            self.assertIsNone(check_word(g, last * 60))
            self.assertRaises(NotWord, check_word, g, last * 61)
            self.assertRaises(NotWord, check_word, g, last * 1000)

    def test_check_word_of_further_generators(self):
        self.assertRaises(NotWord, check_word, 1, "b")
        self.assertRaises(NotWord, check_word, 2, "abC")
        self.assertIsNone(check_word(3, "abC"))


class ShortlexKeyTest(unittest.TestCase):
    def test_keys(self):
        self.assertEqual(shortlex_key(""), (0, ()))
        self.assertEqual(shortlex_key("aAbBcC"), (6, (0, 1, 2, 3, 4, 5)))
        self.assertEqual(shortlex_key("Cb"), (2, (5, 2)))

    def test_key_of_a_long_word(self):
        self.assertEqual(shortlex_key("B" * 500), (500, (3,) * 500))

    def test_keys_compare_in_shortlex(self):
        # words_up_to lists by length, then letter by letter in the order of [1].
        words = words_up_to(3, 3)
        self.assertEqual(sorted(reversed(words), key=shortlex_key), words)
        self.assertEqual(len(set(map(shortlex_key, words))), len(words))

    def test_other_characters(self):
        for text in STRANGERS:
            self.assertRaises(NotWord, shortlex_key, text)


if __name__ == "__main__":
    unittest.main()
