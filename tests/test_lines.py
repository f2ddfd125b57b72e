"""Promise [280]: the words of lines, names, numbers and texts."""

import unittest

from cayleywalk.errors import NotWord
from cayleywalk.lines import is_name, number_in, text_of, word_in, words_of
from samples import STRANGERS, words_up_to

# All characters that may stand in a word of a line.
SIGNS = [chr(code) for code in range(33, 127) if code != 37]

# Characters that may stand nowhere in a line.
BARRED = [chr(code) for code in range(32)] + [chr(37), "\x7f", "\x80", "\u00a0", "\u00e4", "\u2028", "\u0663", "\U0001f600"]

MALFORMED = ["", " ", "  ", " a", "a ", " a ", "a  b", "a b  c", "  a", "a   b", "a b "]


class WordsOfTest(unittest.TestCase):
    def test_lines(self):
        self.assertEqual(words_of("group g 2 abAB"), ["group", "g", "2", "abAB"])
        self.assertEqual(words_of("a"), ["a"])
        self.assertEqual(words_of("- -- ~ !"), ["-", "--", "~", "!"])
        self.assertEqual(words_of("a " * 500 + "a"), ["a"] * 501)

    def test_every_sign(self):
        for sign in SIGNS:
            self.assertEqual(words_of(sign), [sign])
            self.assertEqual(words_of("a" + sign + " " + sign + "b"), ["a" + sign, sign + "b"])

    def test_malformed_lines(self):
        for line in MALFORMED:
            self.assertIsNone(words_of(line))
        for sign in BARRED:
            for line in [sign, "a" + sign, sign + "a", "a" + sign + "b", "a " + sign + " b", "word u a" + sign]:
                self.assertIsNone(words_of(line), repr(line))


class NamesAndNumbersTest(unittest.TestCase):
    def test_names(self):
        for word in ["a", "z", "group", "abcdefghijkl", "zzzzzzzzzzzz"]:
            self.assertIs(is_name(word), True)
        for word in ["", "abcdefghijklm", "A", "aB", "a1", "1", "-", "a-b", "a b", " a", "a\n", "\u00e4", "`", "{", "a_b"]:
            self.assertIs(is_name(word), False)

    def test_numbers(self):
        for number in range(100):
            self.assertEqual(number_in(str(number)), number)
        for word in ["", "-", "00", "01", "09", "100", "000", "-1", "+1", "-0", "1 ", " 1", "1.", "0x1", "a", "1a", "a1", "1_0"]:
            self.assertIsNone(number_in(word), word)
        for word in ["\u0663", "\u00b2", "1\u0663", "1\n", "9" * 50]:
            self.assertIsNone(number_in(word))


class TextsTest(unittest.TestCase):
    def test_texts(self):
        for word in words_up_to(3, 3)[1:] + ["abC" * 20]:
            self.assertEqual(text_of(word), word)
            self.assertEqual(word_in(word), word)
        self.assertEqual(text_of(""), "-")
        self.assertEqual(word_in("-"), "")

    def test_no_texts(self):
        for text in STRANGERS + ["--", "a-", "-a", "", "a" * 61]:
            if text != "-":
                self.assertRaises(NotWord, word_in, text)

    def test_no_words(self):
        for word in STRANGERS + ["--", "a-"]:
            self.assertRaises(NotWord, text_of, word)


if __name__ == "__main__":
    unittest.main()
