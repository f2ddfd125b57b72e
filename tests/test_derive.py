"""Promises [22] to [26]: derivations, undone, inverted and shifted ones, cuts."""

import copy
import unittest

from cayleywalk.derive import cuts, free_derivation, inverted, is_derivation, shifted, undone, walked
from cayleywalk.errors import BadMove, NotPresentation, NotWord
from samples import (
    NO_PRESENTATIONS, PRESENTATIONS, STRANGERS, pair_places, plain_inverse, plain_moved, plain_reduced, random_walk,
    some_words, words_up_to,
)

TWO = (2, ("abAB", "bb"))
LED = [walked, undone, inverted]
WRONG_WORDS = ["c", "abC", "x", "a b", "a" * 201, "c" * 201, "b" * 1000]


class DeriveTestCase(unittest.TestCase):
    def assert_bad(self, presentation, word, moves, at):
        for function in LED:
            with self.assertRaises(BadMove) as caught:
                function(presentation, word, moves)
            self.assertEqual(caught.exception.at, at)
        self.assertIs(is_derivation(presentation, word, word, moves), False)


def sample_walks():
    """Return tuples of a presentation, a word, moves from it, and the last word."""
    found = []
    for presentation in PRESENTATIONS:
        for seed, word in enumerate(some_words(presentation[0], 11, 6, 12) + [""]):
            moves, end = random_walk(presentation, word, seed, 8)
            found.append((presentation, word, moves, end))
    return found


class WalkedTest(DeriveTestCase):
    def test_example(self):
        moves = [("add", 0, 0, 1), ("cut", 3), ("cut", 2)]
        self.assertEqual(walked((2, ("abAB",)), "ba", moves), "ab")
        self.assertIs(is_derivation((2, ("abAB",)), "ba", "ab", moves), True)
        self.assertIs(is_derivation((2, ("abAB",)), "ba", "ba", moves), False)
        self.assertIs(is_derivation((2, ("abAB",)), "ab", "ba", moves), False)

    def test_empty_list(self):
        for word in ["", "ab", "aA", "b" * 200]:
            self.assertEqual(walked(TWO, word, []), word)
            self.assertEqual(undone(TWO, word, []), [])
            self.assertEqual(inverted(TWO, word, []), [])
            self.assertIs(is_derivation(TWO, word, word, []), True)
            self.assertIs(is_derivation(TWO, word, "BA", []), False)

    def test_all_kinds_of_moves(self):
        for presentation, word, moves, end in sample_walks():
            self.assertEqual(walked(presentation, word, moves), end)
            self.assertIs(is_derivation(presentation, word, end, moves), True)
            for other in ["", "a", end + "a", end[:-1]]:
                self.assertIs(is_derivation(presentation, word, other, moves), other == end)

    def test_equal_reduced_forms_are_not_enough(self):
        self.assertIs(is_derivation(TWO, "aA", "", []), False)
        self.assertIs(is_derivation(TWO, "aA", "", [("cut", 0)]), True)


class BadMovesTest(DeriveTestCase):
    def test_index_of_the_first_one(self):
        self.assert_bad(TWO, "ab", [("cut", 0)], 0)
        self.assert_bad(TWO, "aA", [("cut", 0), ("cut", 0)], 1)
        self.assert_bad(TWO, "aA", [("cut", 0), ("add", 0, 1, 1), ("take", 1, 1, 1), ("cut", 9)], 2)
        self.assert_bad(TWO, "", [("put", 0, "a"), ("put", 2, "b"), ("cut", 0), ("put", 0, "c"), ("cut", 0)], 3)

    def test_bad_move_behind_each_walk(self):
        for presentation, word, moves, end in sample_walks():
            for move in [("cut", len(end)), ("put", -1, "a"), ("put", 0, "d"), ("add", 0, 8, 1), ("take", 0, 0, 0)]:
                self.assert_bad(presentation, word, moves + [move, ("put", 0, "a")], len(moves))

    def test_long_words_on_the_way(self):
        self.assertEqual(walked(TWO, "a" * 196, [("add", 196, 0, 1), ("take", 196, 0, 1)]), "a" * 196)
        self.assertEqual(walked(TWO, "a" * 198, [("put", 0, "b"), ("cut", 0), ("put", 198, "B")]), "a" * 198 + "Bb")
        self.assert_bad(TWO, "a" * 197, [("put", 0, "b"), ("put", 0, "b"), ("cut", 0), ("cut", 0)], 1)
        self.assert_bad(TWO, "a" * 196, [("put", 0, "b"), ("add", 0, 1, 1), ("put", 0, "b")], 2)
        self.assert_bad(TWO, "a" * 200, [("put", 0, "b")], 0)
        self.assert_bad(TWO, "a" * 197, [("add", 0, 0, 1)], 0)
        self.assertEqual(undone(TWO, "a" * 196, [("add", 196, 0, 1)]), [("take", 196, 0, 1)])
        self.assertEqual(inverted(TWO, "a" * 196, [("add", 196, 0, 1)]), [("add", 0, 0, -1)])


class OrderOfErrorsTest(DeriveTestCase):
    def test_presentation_first(self):
        for value in NO_PRESENTATIONS:
            for function in LED:
                self.assertRaises(NotPresentation, function, value, "a", [])
                self.assertRaises(NotPresentation, function, value, "x" * 201, [("cut", -1)])
            for function in (is_derivation, lambda p, one, other, moves: free_derivation(p, one, other)):
                self.assertRaises(NotPresentation, function, value, "a", "a", [])
                self.assertRaises(NotPresentation, function, value, "x", "a", [("cut", -1)])

    def test_words_before_moves(self):
        for word in WRONG_WORDS:
            for function in LED:
                self.assertRaises(NotWord, function, TWO, word, [])
                self.assertRaises(NotWord, function, TWO, word, [("cut", -1)])
            for moves in ([], [("cut", -1)]):
                self.assertRaises(NotWord, is_derivation, TWO, word, "a", moves)
                self.assertRaises(NotWord, is_derivation, TWO, "a", word, moves)
            self.assertRaises(NotWord, free_derivation, TWO, word, "a")
            self.assertRaises(NotWord, free_derivation, TWO, "a", word)


class UndoneTest(DeriveTestCase):
    def test_example(self):
        moves = [("add", 0, 0, 1), ("cut", 3), ("cut", 2)]
        back = [("put", 2, "A"), ("put", 3, "B"), ("take", 0, 0, 1)]
        self.assertEqual(undone((2, ("abAB",)), "ba", moves), back)

    def test_opposite_direction(self):
        for presentation, word, moves, end in sample_walks():
            given = copy.deepcopy(moves)
            back = undone(presentation, word, moves)
            self.assertEqual(moves, given)
            self.assertIs(is_derivation(presentation, end, word, back), True)
            self.assertEqual(len(back), len(moves))
            self.assertEqual(undone(presentation, end, back), moves)


class InvertedTest(DeriveTestCase):
    def test_each_kind(self):
        self.assertEqual(inverted(TWO, "aab", [("put", 1, "B")]), [("put", 2, "B")])
        self.assertEqual(inverted(TWO, "aAb", [("cut", 0)]), [("cut", 1)])
        self.assertEqual(inverted(TWO, "aab", [("add", 3, 0, -1)]), [("add", 0, 0, 1)])
        self.assertEqual(inverted(TWO, "aabb", [("take", 2, 1, 1)]), [("take", 0, 1, -1)])

    def test_inverse_words(self):
        for presentation, word, moves, end in sample_walks():
            given = copy.deepcopy(moves)
            turned = inverted(presentation, word, moves)
            self.assertEqual(moves, given)
            start = plain_inverse(word)
            self.assertIs(is_derivation(presentation, start, plain_inverse(end), turned), True)
            self.assertEqual(inverted(presentation, start, turned), moves)
            here = word
            for at, move in enumerate(moves):
                here = plain_moved(presentation, here, move)
                self.assertEqual(walked(presentation, start, turned[:at + 1]), plain_inverse(here))


class ShiftedTest(DeriveTestCase):
    def test_moves(self):
        moves = [("put", 0, "a"), ("cut", 1), ("add", 2, 0, -1), ("take", 3, 1, 1)]
        given = list(moves)
        self.assertEqual(shifted(moves, 5), [("put", 5, "a"), ("cut", 6), ("add", 7, 0, -1), ("take", 8, 1, 1)])
        self.assertEqual(shifted(moves, -1), [("put", -1, "a"), ("cut", 0), ("add", 1, 0, -1), ("take", 2, 1, 1)])
        self.assertEqual(shifted(moves, 0), moves)
        self.assertIsNot(shifted(moves, 0), moves)
        self.assertEqual(shifted([("cut", 2)], 10 ** 30), [("cut", 10 ** 30 + 2)])
        self.assertEqual(shifted([], 3), [])
        self.assertEqual(moves, given)

    def test_words_around(self):
        for presentation, word, moves, end in sample_walks():
            for before, behind in [("", ""), ("a", ""), ("", "A"), ("aAa", "Aaa")]:
                self.assertIs(is_derivation(
                    presentation, before + word + behind, before + end + behind, shifted(moves, len(before)),
                ), True)

    def test_limit_of_the_words_around(self):
        moves = shifted([("put", 0, "b"), ("cut", 0)], 198)
        self.assertEqual(walked(TWO, "a" * 198, moves), "a" * 198)
        self.assert_bad(TWO, "a" * 199, moves, 0)


class CutsTest(DeriveTestCase):
    def test_order(self):
        self.assertEqual(cuts("abABba"), [("cut", 3), ("cut", 2)])
        self.assertEqual(cuts(""), [])
        self.assertEqual(cuts("abAB"), [])
        self.assertEqual(cuts("aAa"), [("cut", 0)])
        self.assertEqual(cuts("aAbBcC"), [("cut", 0), ("cut", 0), ("cut", 0)])
        self.assertEqual(cuts("abBAcC"), [("cut", 1), ("cut", 0), ("cut", 0)])

    def test_first_pair_each_time(self):
        for word in words_up_to(2, 5) + some_words(3, 12, 100, 60) + some_words(2, 13, 20, 200):
            rest = word
            expected = []
            while pair_places(rest):
                at = pair_places(rest)[0]
                expected.append(("cut", at))
                rest = rest[:at] + rest[at + 2:]
            self.assertEqual(cuts(word), expected)

    def test_long_words(self):
        self.assertEqual(cuts("a" * 100 + "A" * 100), [("cut", at) for at in range(99, -1, -1)])

    def test_other_strings(self):
        for text in STRANGERS:
            self.assertRaises(NotWord, cuts, text)


class FreeDerivationTest(DeriveTestCase):
    def test_examples(self):
        self.assertEqual(free_derivation(TWO, "aAb", "bBb"), [("cut", 0), ("put", 0, "b")])
        self.assertEqual(free_derivation(TWO, "", "abBA"), [("put", 0, "a"), ("put", 1, "b")])
        self.assertEqual(free_derivation(TWO, "ab", "ab"), [])
        self.assertEqual(free_derivation(TWO, "", ""), [])

    def test_different_reduced_forms(self):
        self.assertIsNone(free_derivation(TWO, "ab", "ba"))
        self.assertIsNone(free_derivation(TWO, "bb", ""))
        self.assertIsNone(free_derivation(TWO, "aA", "a"))

    def test_all_pairs_of_short_words(self):
        for one in words_up_to(2, 3):
            for other in words_up_to(2, 3):
                moves = free_derivation(TWO, one, other)
                if plain_reduced(one) != plain_reduced(other):
                    self.assertIsNone(moves)
                else:
                    self.assertIs(is_derivation(TWO, one, other, moves), True)
                    self.assertLessEqual({move[0] for move in moves}, {"cut", "put"})
                    self.assertEqual(moves, cuts(one) + undone(TWO, other, cuts(other)))

    def test_long_words(self):
        one = "a" * 100 + "A" * 100
        other = "bB" * 100
        self.assertIs(is_derivation(TWO, one, other, free_derivation(TWO, one, other)), True)
        self.assertRaises(NotWord, free_derivation, TWO, one + "a", other)
        self.assertRaises(NotWord, free_derivation, TWO, one, other + "b")

    def test_letters_of_the_presentation(self):
        self.assertRaises(NotWord, free_derivation, (1, ()), "a", "bBa")
        self.assertRaises(NotWord, free_derivation, (1, ()), "bB", "")


if __name__ == "__main__":
    unittest.main()
