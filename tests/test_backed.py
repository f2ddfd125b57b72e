"""Promises [140] to [143]: walks in chains of backed rules, sound chains, derivations of walks."""

import random
import unittest

from cayleywalk.backed import first_fault, is_walk, moved_in, unfolded, walked_in
from cayleywalk.derive import is_derivation
from cayleywalk.errors import BadMove, NotPresentation, NotSound, NotWord, TooLarge
from chain_samples import (
    GRID, GRID_CHAIN, TWO, TWO_CHAIN, plain_undone, plain_walked, random_walk_in, some_chains, use_moves,
)
from rule_samples import NO_RULES
from samples import NO_PRESENTATIONS, STRANGERS, allowed_moves, plain_inverse, some_words

WRONG_WORDS = STRANGERS + ["b", "aB", "a" * 201]
LONG_PUTS = (("put", 0, "a"),) * 90 + (("cut", 0),) * 90


class BackedTestCase(unittest.TestCase):
    def assert_bad(self, at, function, *arguments):
        with self.assertRaises(BadMove) as caught:
            function(*arguments)
        self.assertEqual(caught.exception.at, at)


class MovedInTest(BackedTestCase):
    def test_both_signs(self):
        self.assertEqual(moved_in(TWO, TWO_CHAIN, "aAA", ("use", 1, 3, 1)), "aaA")
        self.assertEqual(moved_in(TWO, TWO_CHAIN, "aAA", ("use", 0, 3, -1)), "AAA")
        self.assertEqual(moved_in(TWO, TWO_CHAIN, "a", ("use", 0, 2, -1)), "aaa")
        self.assertEqual(moved_in(TWO, TWO_CHAIN, "a", ("use", 1, 2, -1)), "aaa")
        self.assertEqual(moved_in(TWO, TWO_CHAIN, "", ("use", 0, 1, -1)), "Aa")
        self.assertEqual(moved_in(GRID, GRID_CHAIN, "aba", ("use", 1, 4, 1)), "aab")
        self.assertEqual(moved_in(GRID, GRID_CHAIN, "aba", ("use", 0, 4, -1)), "baa")
        self.assert_bad(0, moved_in, GRID, GRID_CHAIN, "aba", ("use", 1, 4, -1))
        self.assert_bad(0, moved_in, TWO, TWO_CHAIN, "a", ("use", 2, 2, -1))

    def test_other_moves(self):
        self.assertEqual(moved_in(TWO, TWO_CHAIN, "aA", ("cut", 0)), "")
        self.assertEqual(moved_in(TWO, (), "a", ("put", 1, "a")), "aaA")
        self.assertEqual(moved_in(TWO, (), "a", ("add", 0, 0, -1)), "AAa")
        self.assertEqual(moved_in(TWO, (), "aaa", ("take", 1, 0, 1)), "a")
        for move in [("cut", 1), ("put", 3, "a"), ("put", 0, "b"), ("add", 0, 1, 1), ("take", 0, 0, 1), ("cut", -1)]:
            self.assert_bad(0, moved_in, TWO, TWO_CHAIN, "aA", move)

    def test_all_places_and_numbers(self):
        for presentation, chain in some_chains(91, 22):
            for word in some_words(presentation[0], 92, 5, 8) + ["", "aA"]:
                allowed = use_moves(presentation, chain, word)
                for at in range(-2, len(word) + 3):
                    for j in range(-2, len(chain) + 2):
                        for sign in (-2, -1, 0, 1, 2):
                            move = ("use", at, j, sign)
                            if move in allowed:
                                expected = plain_walked(presentation, chain, word, [move])[-1]
                                self.assertEqual(moved_in(presentation, chain, word, move), expected)
                            else:
                                self.assert_bad(0, moved_in, presentation, chain, word, move)
                for move in allowed_moves(presentation, word)[:40]:
                    expected = plain_walked(presentation, chain, word, [move])[-1]
                    self.assertEqual(moved_in(presentation, chain, word, move), expected)

    def test_large_numbers(self):
        for move in [("use", 10 ** 30, 2, 1), ("use", 0, 10 ** 30, 1), ("use", 0, 2, 10 ** 30), ("use", -2, 2, 1)]:
            self.assert_bad(0, moved_in, TWO, TWO_CHAIN, "aa", move)

    def test_longest_words(self):
        self.assertEqual(moved_in(TWO, TWO_CHAIN, "a" * 198, ("use", 198, 2, -1)), "a" * 200)
        self.assertEqual(moved_in(TWO, TWO_CHAIN, "a" * 200, ("use", 199, 3, -1)), "a" * 199 + "A")
        self.assertEqual(moved_in(TWO, TWO_CHAIN, "a" * 200, ("use", 198, 2, 1)), "a" * 198)
        self.assert_bad(0, moved_in, TWO, TWO_CHAIN, "a" * 199, ("use", 0, 2, -1))
        self.assert_bad(0, moved_in, TWO, TWO_CHAIN, "a" * 200, ("use", 200, 2, -1))

    def test_sides_that_are_not_words(self):
        chain = (("aa", "b", ()), ("b", "", ()), ("x", "a", ()), ("a", "?", ()), ("aa", "", ()))
        for word in ("aa", "a", ""):
            for j in range(4):
                for sign in (1, -1):
                    for at in range(3):
                        self.assert_bad(0, moved_in, TWO, chain, word, ("use", at, j, sign))
        self.assertEqual(moved_in((2, ()), chain, "aa", ("use", 0, 0, 1)), "b")
        self.assertEqual(moved_in(TWO, chain, "aa", ("use", 0, 4, 1)), "")

    def test_errors(self):
        for value in NO_PRESENTATIONS:
            self.assertRaises(NotPresentation, moved_in, value, TWO_CHAIN, "x", ("use", 0, 9, 1))
            self.assertRaises(NotPresentation, walked_in, value, TWO_CHAIN, "x", [("use", 0, 9, 1)])
            self.assertRaises(NotPresentation, is_walk, value, TWO_CHAIN, "x", "x", [])
            self.assertRaises(NotPresentation, first_fault, value, (("", "", ()),))
            self.assertRaises(NotPresentation, unfolded, value, (("", "", ()),), "x", [])
        for word in WRONG_WORDS:
            self.assertRaises(NotWord, moved_in, TWO, TWO_CHAIN, word, ("use", 0, 9, 1))
            self.assertRaises(NotWord, walked_in, TWO, TWO_CHAIN, word, [("use", 0, 9, 1)])
            self.assertRaises(NotWord, is_walk, TWO, TWO_CHAIN, word, "", [("use", 0, 9, 1)])
            self.assertRaises(NotWord, is_walk, TWO, TWO_CHAIN, "", word, [("use", 0, 9, 1)])
            self.assertRaises(NotWord, unfolded, TWO, (("", "", ()),), word, [("use", 0, 9, 1)])


class WalkTest(BackedTestCase):
    def test_example(self):
        walk = [("use", 1, 3, 1), ("use", 0, 2, 1)]
        self.assertEqual(walked_in(TWO, TWO_CHAIN, "aA", walk), "")
        self.assertIs(is_walk(TWO, TWO_CHAIN, "aA", "", walk), True)
        self.assertIs(is_walk(TWO, TWO_CHAIN, "aA", "a", walk), False)
        self.assertIs(is_walk(TWO, TWO_CHAIN, "aA", "aA", []), True)
        self.assertEqual(walked_in(TWO, (), "aA", []), "aA")

    def test_walks(self):
        chance = random.Random(93)
        for presentation, chain in some_chains(94, 33):
            for word in some_words(presentation[0], 95, 4, 8):
                moves, end = random_walk_in(presentation, chain, word, chance, 8)
                given = list(moves)
                self.assertEqual(walked_in(presentation, chain, word, moves), end)
                self.assertIs(is_walk(presentation, chain, word, end, moves), True)
                self.assertIs(is_walk(presentation, chain, word, end + "a", moves), False)
                back = plain_undone(presentation, chain, word, moves)
                self.assertIs(is_walk(presentation, chain, end, word, back), True)
                for move in [("use", 0, len(chain), 1), ("use", len(end) + 1, 0, 1), ("cut", len(end))]:
                    self.assert_bad(8, walked_in, presentation, chain, word, moves + [move, ("put", 0, "a")])
                    self.assertIs(is_walk(presentation, chain, word, end, moves + [move]), False)
                self.assertEqual(moves, given)

    def test_first_bad_move(self):
        self.assert_bad(0, walked_in, TWO, TWO_CHAIN, "a", [("use", 0, 2, 1), ("cut", 5)])
        self.assert_bad(1, walked_in, TWO, TWO_CHAIN, "aa", [("use", 0, 2, 1), ("use", 0, 2, 1)])
        self.assert_bad(2, walked_in, TWO, TWO_CHAIN, "aa", [("use", 0, 2, 1), ("use", 0, 2, -1), ("use", 1, 2, 1)])

    def test_long_words_on_the_way(self):
        moves = [("use", 0, 2, -1), ("use", 0, 2, 1)]
        self.assertEqual(walked_in(TWO, TWO_CHAIN, "a" * 198, moves), "a" * 198)
        self.assert_bad(0, walked_in, TWO, TWO_CHAIN, "a" * 199, moves)
        self.assert_bad(1, walked_in, TWO, TWO_CHAIN, "a" * 197, moves[:1] * 2 + moves[1:] * 2)

    def test_rules_with_long_sides(self):
        chain = (("a" * 61, "", ()), ("a", "aa", ()), ("", "", ()))
        self.assertEqual(walked_in(TWO, chain, "", [("use", 0, 0, -1)]), "a" * 61)
        self.assertEqual(walked_in(TWO, chain, "a", [("use", 0, 1, 1), ("use", 2, 2, 1)]), "aa")


class SoundTest(BackedTestCase):
    def test_sound_chains(self):
        for presentation, chain in some_chains(96, 66):
            self.assertIsNone(first_fault(presentation, chain))
            for k in range(len(chain)):
                self.assertIsNone(first_fault(presentation, chain[:k]))

    def test_uses_of_itself_and_of_later_rules(self):
        self.assertEqual(first_fault(TWO, (("aa", "", (("use", 0, 0, 1),)),)), 0)
        self.assertEqual(first_fault(TWO, TWO_CHAIN[:3] + (("A", "a", (("use", 0, 3, 1),)),)), 3)
        later = (("Aa", "", (("use", 0, 1, 1),)), ("Aa", "", (("cut", 0),)))
        self.assertEqual(first_fault(TWO, later), 0)
        self.assertIsNone(first_fault(TWO, later[::-1][:1] + (("Aa", "", (("use", 0, 0, 1),)),)))
        self.assertEqual(first_fault(TWO, TWO_CHAIN + (("aa", "", (("use", 0, -2, 1),)),)), 4)

    def test_one_place_changed(self):
        for presentation, chain in some_chains(97, 44):
            for k, (left, right, moves) in enumerate(chain):
                others = [
                    (left + "a", right, moves), (left, right + "a", moves), (left, left, moves), (right, left, moves),
                    (left, right, moves + (("use", 0, k, 1),)), (left, right, moves + (("cut", 99),)),
                    (left, right, (("put", 0, "a"),) + moves), (left, right, ()),
                ]
                others += [(left, right, moves[:at] + moves[at + 1:]) for at in range(len(moves))]
                for entry in others:
                    changed = chain[:k] + (entry,) + chain[k + 1:]
                    self.assertEqual(first_fault(presentation, changed), plain_fault(presentation, changed))
        self.assertEqual(first_fault(TWO, TWO_CHAIN[:2] + TWO_CHAIN[3:]), None)
        self.assertEqual(first_fault(GRID, GRID_CHAIN[:4] + GRID_CHAIN[5:]), 4)

    def test_sides(self):
        for left, right in NO_RULES:
            chain = TWO_CHAIN + ((left, right, ()),) + (("", "", ()),)
            self.assertEqual(first_fault(TWO, chain), 4)
        # The moves are right, but the right side does not come first.
        self.assertEqual(first_fault(TWO, (("", "aA", (("put", 0, "a"),)),)), 0)
        self.assertEqual(first_fault(TWO, (("a", "A", (("add", 1, 0, -1), ("cut", 0))),)), 0)

    def test_long_sides_and_words(self):
        long_one = ("a" * 60 + "A", "a" * 59, (("cut", 59),))
        self.assertEqual(first_fault(TWO, (long_one,)), 0)
        self.assertIsNone(first_fault(TWO, (("a" * 59 + "A", "a" * 58, (("cut", 58),)),)))
        puts = (("put", 0, "a"),) * 99 + (("cut", 0),) * 99
        self.assertIsNone(first_fault(TWO, (("aA", "", puts + (("cut", 0),)),)))
        more = (("put", 0, "a"),) * 100 + (("cut", 0),) * 100
        self.assertEqual(first_fault(TWO, (("aA", "", more + (("cut", 0),)),)), 0)

    def test_number_of_entries(self):
        rule = ("aA", "", (("cut", 0),))
        self.assertIsNone(first_fault(TWO, (rule,) * 120))
        self.assertEqual(first_fault(TWO, (rule,) * 121), 120)
        self.assertEqual(first_fault(TWO, (rule,) * 150), 120)
        self.assertEqual(first_fault(TWO, (rule,) * 119 + (("aA", "", ()),) + (rule,)), 119)
        self.assertEqual(first_fault(TWO, (rule,) * 120 + (("aA", "", ()),)), 120)
        self.assertEqual(first_fault(TWO, (rule,) * 130 + (("aA", "", ()),)), 120)


class UnfoldedTest(BackedTestCase):
    def test_example(self):
        walk = [("use", 1, 3, 1), ("use", 0, 2, 1)]
        expected = [("add", 1, 0, 1), ("cut", 2), ("take", 0, 0, 1)]
        self.assertEqual(unfolded(TWO, TWO_CHAIN, "aA", walk), expected)
        self.assertEqual(unfolded(TWO, TWO_CHAIN, "a", [("use", 0, 3, -1)]), [("put", 1, "a"), ("take", 0, 0, 1)])
        self.assertEqual(unfolded(TWO, TWO_CHAIN, "aa", []), [])

    def test_derivations(self):
        chance = random.Random(98)
        for presentation, chain in some_chains(99, 66):
            for word in some_words(presentation[0], 100, 4, 6):
                moves, end = random_walk_in(presentation, chain, word, chance, 5)
                given = list(moves)
                found = unfolded(presentation, chain, word, moves)
                self.assertNotIn("use", [move[0] for move in found])
                self.assertIs(is_derivation(presentation, word, end, found), True)
                self.assertEqual(moves, given)
                found.clear()
                self.assertNotEqual(unfolded(presentation, chain, word, moves), [])

    def test_both_sides_of_each_rule(self):
        for presentation, chain in some_chains(101, 44):
            for k, (left, right, _) in enumerate(chain):
                there = unfolded(presentation, chain, left, [("use", 0, k, 1)])
                back = unfolded(presentation, chain, right, [("use", 0, k, -1)])
                self.assertIs(is_derivation(presentation, left, right, there), True)
                self.assertIs(is_derivation(presentation, right, left, back), True)
                self.assertEqual(len(there), len(back))

    def test_nothing_but_letters_counts(self):
        for word in ["bA", "bBab", plain_inverse("abab")]:
            moves, end = random_walk_in(GRID, GRID_CHAIN, word, random.Random(102), 12)
            self.assertIs(is_derivation(GRID, word, end, unfolded(GRID, GRID_CHAIN, word, moves)), True)

    def test_order_of_errors(self):
        bad = TWO_CHAIN + (("aa", "a", ()),)
        self.assertRaises(NotSound, unfolded, TWO, bad, "a", [])
        self.assertRaises(NotSound, unfolded, TWO, bad, "a", [("use", 0, 9, 1)])
        self.assertRaises(NotSound, unfolded, TWO, TWO_CHAIN * 31, "a", [])
        self.assert_bad(0, unfolded, TWO, TWO_CHAIN, "a", [("use", 0, 9, 1)])
        self.assert_bad(1, unfolded, TWO, TWO_CHAIN, "aA", [("use", 1, 3, 1), ("use", 1, 2, 1)])
        many = [("put", 0, "a"), ("cut", 0)] * 2500
        self.assert_bad(5000, unfolded, TWO, TWO_CHAIN, "aa", many + [("cut", 0)])

    def test_number_of_moves(self):
        pair = [("put", 0, "a"), ("cut", 0)]
        self.assertEqual(unfolded(TWO, (), "a", pair * 2000), pair * 2000)
        self.assertRaises(TooLarge, unfolded, TWO, (), "a", pair * 2000 + [("add", 0, 0, 1)])
        chain = (("aA", "", tuple(pair) * 999 + (("cut", 0),)),)
        self.assertEqual(len(unfolded(TWO, chain, "aAaA", [("use", 0, 0, 1), ("use", 0, 0, 1)])), 3998)
        walk = [("use", 0, 0, 1), ("use", 0, 0, -1)]
        self.assertEqual(len(unfolded(TWO, chain, "aA", walk + [("cut", 0), ("put", 0, "a")])), 4000)
        self.assertRaises(TooLarge, unfolded, TWO, chain, "aA", walk + [("cut", 0), ("put", 0, "a"), ("cut", 0)])

    def test_chains_that_grow(self):
        # The derivation of each rule has three times as many moves as that of the one before.
        chain = [("aA", "", (("cut", 0),))]
        for k in range(60):
            chain.append(("aA", "", (("use", 0, k, 1), ("use", 0, k, -1), ("use", 0, k, 1))))
        self.assertRaises(TooLarge, unfolded, TWO, tuple(chain), "aA", [("use", 0, 60, 1)])
        self.assertEqual(len(unfolded(TWO, tuple(chain), "aA", [("use", 0, 7, 1)])), 3 ** 7)
        self.assertRaises(TooLarge, unfolded, TWO, tuple(chain), "aA", [("use", 0, 8, 1)])

    def test_long_words_on_the_way(self):
        chain = (("aA", "", LONG_PUTS + (("cut", 0),)),)
        self.assertIsNone(first_fault(TWO, chain))
        self.assertEqual(len(unfolded(TWO, chain, "a" * 19 + "A", [("use", 18, 0, 1)])), 181)
        self.assertRaises(TooLarge, unfolded, TWO, chain, "a" * 20 + "A", [("use", 19, 0, 1)])
        self.assertEqual(len(unfolded(TWO, chain, "a" * 18, [("use", 18, 0, -1)])), 181)
        self.assertRaises(TooLarge, unfolded, TWO, chain, "a" * 19, [("use", 18, 0, -1)])

    def test_long_chains(self):
        chain = [("aA", "", (("cut", 0),))]
        for k in range(119):
            chain.append(("aA", "", (("use", 0, k, 1),)))
        self.assertEqual(unfolded(TWO, tuple(chain), "aaA", [("use", 1, 119, 1)]), [("cut", 1)])
        self.assertEqual(unfolded(TWO, tuple(chain), "a", [("use", 1, 119, -1)]), [("put", 1, "a")])


def plain_fault(presentation, chain):
    """Return the index of the first entry that is no rule, or whose moves do not lead to its right side."""
    letters = "aAbBcC"[:2 * presentation[0]]
    for k, (left, right, moves) in enumerate(chain):
        keys = [(len(side), [letters.index(letter) for letter in side]) for side in (left, right)]
        if keys[1] >= keys[0] or len(left) > 60:
            return k
        word = left
        for move in moves:
            if move not in use_moves(presentation, chain[:k], word) + allowed_moves(presentation, word):
                return k
            word = plain_walked(presentation, chain, word, [move])[-1]
        if word != right:
            return k
    return None


if __name__ == "__main__":
    unittest.main()
