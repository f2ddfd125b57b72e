"""Promises [21], [23] and [27]: moves, the moves that undo them, and shorters."""

import unittest

from cayleywalk.errors import BadMove, NotPresentation, NotWord
from cayleywalk.moves import moved, shorters, undoing
from samples import NO_PRESENTATIONS, PRESENTATIONS, allowed_moves, plain_moved, some_words, words_up_to

TWO = (2, ("abAB", "bb"))
FAR = 10 ** 30


class MovesTestCase(unittest.TestCase):
    def assert_bad(self, presentation, word, move):
        for function in (moved, undoing):
            with self.assertRaises(BadMove) as caught:
                function(presentation, word, move)
            self.assertEqual(caught.exception.at, 0)


class AllowedMovesTest(MovesTestCase):
    def test_example(self):
        self.assertEqual(moved((2, ("abAB",)), "ba", ("add", 0, 0, 1)), "abABba")

    def test_put(self):
        self.assertEqual(moved(TWO, "", ("put", 0, "a")), "aA")
        self.assertEqual(moved(TWO, "ab", ("put", 0, "B")), "Bbab")
        self.assertEqual(moved(TWO, "ab", ("put", 1, "A")), "aAab")
        self.assertEqual(moved(TWO, "ab", ("put", 2, "b")), "abbB")

    def test_cut(self):
        self.assertEqual(moved(TWO, "aA", ("cut", 0)), "")
        self.assertEqual(moved(TWO, "aAa", ("cut", 0)), "a")
        self.assertEqual(moved(TWO, "aAa", ("cut", 1)), "a")
        self.assertEqual(moved(TWO, "abBA", ("cut", 1)), "aA")

    def test_add(self):
        self.assertEqual(moved(TWO, "", ("add", 0, 0, -1)), "baBA")
        self.assertEqual(moved(TWO, "aa", ("add", 1, 1, 1)), "abba")
        self.assertEqual(moved(TWO, "aa", ("add", 2, 1, -1)), "aaBB")

    def test_take(self):
        self.assertEqual(moved(TWO, "abAB", ("take", 0, 0, 1)), "")
        self.assertEqual(moved(TWO, "abaBA", ("take", 1, 0, -1)), "a")
        self.assertEqual(moved(TWO, "abbb", ("take", 2, 1, 1)), "ab")

    def test_all_allowed_moves(self):
        for presentation in PRESENTATIONS:
            words = words_up_to(presentation[0], 2) + some_words(presentation[0], 5, 5, 12)
            for word in words + list(presentation[1]):
                for move in allowed_moves(presentation, word):
                    self.assertEqual(moved(presentation, word, move), plain_moved(presentation, word, move))


class WrongMovesTest(MovesTestCase):
    def test_places_of_put_and_add(self):
        for word in ["", "a", "abAB"]:
            for at in [-1, -2, -len(word) - 1, len(word) + 1, len(word) + 2, FAR, -FAR]:
                self.assert_bad(TWO, word, ("put", at, "a"))
                self.assert_bad(TWO, word, ("add", at, 0, 1))

    def test_letters_of_put(self):
        for letter in ["c", "C", "d", " ", "1", "-"]:
            self.assert_bad(TWO, "ab", ("put", 0, letter))
        self.assert_bad((1, ()), "", ("put", 0, "b"))
        self.assert_bad((1, ()), "", ("put", 0, "B"))

    def test_places_of_cut(self):
        for at in [-1, -2, -4, 3, 4, 5, FAR, -FAR]:
            self.assert_bad(TWO, "aAaA", ("cut", at))
        for at in [-1, 0, 1, FAR]:
            self.assert_bad(TWO, "", ("cut", at))
            self.assert_bad(TWO, "a", ("cut", at))

    def test_letters_of_cut(self):
        self.assert_bad(TWO, "aa", ("cut", 0))
        self.assert_bad(TWO, "aB", ("cut", 0))
        self.assert_bad(TWO, "abA", ("cut", 0))
        self.assert_bad(TWO, "abA", ("cut", 1))

    def test_places_of_take(self):
        for at in [-1, -2, -4, 1, 2, 4, 5, FAR, -FAR]:
            self.assert_bad(TWO, "abAB", ("take", at, 0, 1))
        self.assert_bad(TWO, "bbb", ("take", 2, 1, 1))
        self.assert_bad(TWO, "bbb", ("take", -1, 1, 1))
        self.assert_bad(TWO, "bbb", ("take", -2, 1, 1))
        self.assert_bad(TWO, "", ("take", 0, 1, 1))

    def test_relators(self):
        for k in [2, 3, -1, -2, FAR, -FAR]:
            for sign in (1, -1):
                self.assert_bad(TWO, "abABbb", ("add", 0, k, sign))
                self.assert_bad(TWO, "abABbb", ("take", 0, k, sign))
                self.assert_bad(TWO, "abABbb", ("take", 4, k, sign))
        self.assert_bad((2, ()), "ab", ("add", 0, 0, 1))
        self.assert_bad((2, ()), "ab", ("take", 0, 0, 1))

    def test_signs(self):
        for sign in [0, 2, -2, FAR, -FAR]:
            self.assert_bad(TWO, "abAB", ("add", 0, 0, sign))
            self.assert_bad(TWO, "abAB", ("take", 0, 0, sign))

    def test_sign_that_does_not_stand_there(self):
        self.assert_bad(TWO, "abAB", ("take", 0, 0, -1))
        self.assert_bad(TWO, "baBA", ("take", 0, 0, 1))
        self.assert_bad(TWO, "abAB", ("take", 0, 1, 1))


class LongWordsTest(MovesTestCase):
    def test_put(self):
        self.assertEqual(len(moved(TWO, "a" * 198, ("put", 198, "b"))), 200)
        self.assert_bad(TWO, "a" * 199, ("put", 0, "b"))
        self.assert_bad(TWO, "a" * 200, ("put", 200, "b"))

    def test_add(self):
        self.assertEqual(moved(TWO, "a" * 196, ("add", 196, 0, 1)), "a" * 196 + "abAB")
        self.assertEqual(len(moved(TWO, "a" * 198, ("add", 0, 1, -1))), 200)
        for size in (197, 198, 199, 200):
            self.assert_bad(TWO, "a" * size, ("add", 0, 0, 1))
        self.assert_bad(TWO, "a" * 199, ("add", 0, 1, 1))
        self.assertEqual(len(moved((1, ("a",)), "a" * 199, ("add", 9, 0, 1))), 200)
        self.assert_bad((1, ("a",)), "a" * 200, ("add", 9, 0, 1))

    def test_cut_and_take(self):
        self.assertEqual(moved(TWO, "a" * 198 + "bB", ("cut", 198)), "a" * 198)
        self.assertEqual(moved(TWO, "a" * 198 + "bb", ("take", 198, 1, 1)), "a" * 198)
        self.assertEqual(moved(TWO, "b" * 199, ("take", 197, 1, 1)), "b" * 197)


class OrderOfErrorsTest(MovesTestCase):
    WRONG_MOVES = [("put", -1, "x"), ("cut", 9), ("add", 0, 7, 0), ("take", 0, -1, 1)]

    def test_presentation_first(self):
        for value in NO_PRESENTATIONS:
            for function in (moved, undoing):
                self.assertRaises(NotPresentation, function, value, "a", ("put", 0, "a"))
                self.assertRaises(NotPresentation, function, value, "x", ("put", -1, "x"))
            self.assertRaises(NotPresentation, shorters, value, "aA")
            self.assertRaises(NotPresentation, shorters, value, "x" * 300)

    def test_word_before_move(self):
        for word in ["c", "abC", "x", "a b", "a" * 201, "c" * 201, "a" * 1000]:
            for move in self.WRONG_MOVES + [("put", 0, "a")]:
                self.assertRaises(NotWord, moved, TWO, word, move)
                self.assertRaises(NotWord, undoing, TWO, word, move)
            self.assertRaises(NotWord, shorters, TWO, word)
        for move in self.WRONG_MOVES:
            self.assert_bad(TWO, "ab", move)

    def test_letters_of_the_presentation(self):
        self.assertRaises(NotWord, moved, (1, ("aa",)), "b", ("put", 0, "a"))
        self.assertEqual(moved((3, ()), "c", ("put", 0, "a")), "aAc")


class UndoingTest(MovesTestCase):
    def test_kinds(self):
        self.assertEqual(undoing(TWO, "ab", ("put", 1, "B")), ("cut", 1))
        self.assertEqual(undoing(TWO, "aBbb", ("cut", 1)), ("put", 1, "B"))
        self.assertEqual(undoing(TWO, "aBbb", ("add", 3, 0, -1)), ("take", 3, 0, -1))
        self.assertEqual(undoing(TWO, "aabAB", ("take", 1, 0, 1)), ("add", 1, 0, 1))

    def test_back_to_the_word(self):
        for presentation in PRESENTATIONS:
            words = words_up_to(presentation[0], 2) + some_words(presentation[0], 6, 4, 14)
            for word in words + list(presentation[1]):
                for move in allowed_moves(presentation, word):
                    back = undoing(presentation, word, move)
                    behind = moved(presentation, word, move)
                    self.assertEqual(moved(presentation, behind, back), word)
                    self.assertEqual(undoing(presentation, behind, back)[:2], move[:2])

    def test_long_words(self):
        word = "a" * 196 + "bBbb"
        self.assertEqual(undoing(TWO, word, ("cut", 196)), ("put", 196, "b"))
        self.assertEqual(undoing(TWO, word, ("take", 198, 1, 1)), ("add", 198, 1, 1))


class ShortersTest(MovesTestCase):
    def test_order(self):
        presentation = (1, ("aA", "aA", "Aa", "a"))
        self.assertEqual(shorters(presentation, "aA"), [
            ("cut", 0), ("take", 0, 0, 1), ("take", 0, 0, -1), ("take", 0, 1, 1), ("take", 0, 1, -1),
            ("take", 0, 3, 1), ("take", 1, 3, -1),
        ])

    def test_relators_that_stand_on_one_another(self):
        presentation = (2, ("ab", "aba", "bab"))
        self.assertEqual(shorters(presentation, "abab"), [
            ("take", 0, 0, 1), ("take", 0, 1, 1), ("take", 1, 2, 1), ("take", 2, 0, 1),
        ])

    def test_nothing_to_shorten(self):
        self.assertEqual(shorters(TWO, ""), [])
        self.assertEqual(shorters(TWO, "aab"), [])
        self.assertEqual(shorters((3, ()), "abcABC" * 30), [])

    def test_all_of_them(self):
        for presentation in PRESENTATIONS:
            words = words_up_to(presentation[0], 3) + some_words(presentation[0], 7, 10, 30)
            for word in words + list(presentation[1]):
                expected = [move for move in allowed_moves(presentation, word) if move[0] in ("cut", "take")]
                expected.sort(key=lambda move: (move[1], move[0], move[2:3], -move[-1]))
                self.assertEqual(shorters(presentation, word), expected)

    def test_long_word(self):
        self.assertEqual(shorters((1, ()), "a" * 198 + "Aa"), [("cut", 197), ("cut", 198)])
        self.assertEqual(len(shorters((1, ("a",)), "a" * 200)), 200)

    def test_new_lists(self):
        one = shorters(TWO, "bb")
        one.append("changed")
        self.assertEqual(shorters(TWO, "bb"), [("take", 0, 1, 1)])


if __name__ == "__main__":
    unittest.main()
