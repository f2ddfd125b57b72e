"""Promises [121] to [123] and [126] to [128]: reductions, complete and tidy systems."""

import random
import unittest

from cayleywalk.errors import BadNumber, NotComplete, NotRule, NotWord, TooLarge
from cayleywalk.rewrite import applied, first_conflict, is_complete, is_irreducible, normal_form, tidied, trace
from cayleywalk.rules import overlaps
from row_samples import plain_key
from rule_samples import (
    COMPLETE, CONFLICTING, FREE_TWO, NO_RULES, places_of, plain_applied, plain_form, plain_overlaps, some_systems,
)
from samples import STRANGERS, some_words, words_up_to

INVOLUTION = (("aa", ""), ("A", "a"))
SORTING = (("ba", "ab"),)

OF_A_WORD = [
    normal_form, trace, is_irreducible, lambda gens, system, word: applied(gens, system, word, 0, 0),
]
OF_A_SYSTEM = [first_conflict, is_complete, tidied]


class ReductionTest(unittest.TestCase):
    def test_examples(self):
        self.assertEqual(normal_form(1, INVOLUTION, "aAA"), "a")
        self.assertEqual(trace(1, INVOLUTION, "aAA"), [(1, 1), (0, 0), (0, 1)])
        self.assertEqual(normal_form(2, (("ab", "a"), ("ba", "b")), "aa"), "aa")
        self.assertEqual(normal_form(2, (("ab", "a"), ("ba", "b")), "ab"), "a")

    def test_least_place_then_first_rule(self):
        self.assertEqual(trace(2, (("b", ""), ("ab", "a")), "ab"), [(0, 1)])
        self.assertEqual(trace(1, (("aa", "a"), ("a", "")), "aa"), [(0, 0), (0, 1)])
        self.assertEqual(trace(1, (("a", ""), ("aa", "a")), "aa"), [(0, 0), (0, 0)])
        self.assertEqual(trace(2, (("bb", "a"), ("aaa", "")), "aabb"), [(2, 0), (0, 1)])
        self.assertEqual(trace(2, (("aab", "B"), ("bb", "ab"), ("b", "")), "abb"), [(1, 1), (0, 0)])

    def test_step_by_step(self):
        for gens, system in COMPLETE + CONFLICTING + some_systems(81, 90):
            for word in words_up_to(gens, 2) + some_words(gens, 82, 12, 25):
                steps = trace(gens, system, word)
                here = word
                for place, index in steps:
                    self.assertEqual((place, index), places_of(system, here)[0])
                    self.assertIs(is_irreducible(gens, system, here), False)
                    behind = applied(gens, system, here, place, index)
                    self.assertEqual(behind, plain_applied(system, here, place, index))
                    self.assertLess(plain_key(behind), plain_key(here))
                    here = behind
                self.assertEqual(places_of(system, here), [])
                self.assertIs(is_irreducible(gens, system, here), True)
                self.assertEqual(normal_form(gens, system, word), here)

    def test_no_rules(self):
        self.assertEqual(normal_form(2, (), "abAB"), "abAB")
        self.assertEqual(trace(2, (), "abAB"), [])
        self.assertIs(is_irreducible(2, (), "aA"), True)

    def test_longest_words(self):
        self.assertEqual(normal_form(1, INVOLUTION, "a" * 200), "")
        self.assertEqual(trace(1, INVOLUTION, "a" * 200), [(0, 0)] * 100)
        self.assertEqual(normal_form(2, FREE_TWO, "ab" * 50 + "BA" * 50), "")
        for function in OF_A_WORD:
            self.assertRaises(NotWord, function, 1, INVOLUTION, "a" * 201)

    def test_number_of_steps(self):
        # Sorting takes one step for each b that stands ahead of an a.
        word = "b" * 40 + "a" * 50
        self.assertEqual(normal_form(2, SORTING, word), "a" * 50 + "b" * 40)
        self.assertEqual(len(trace(2, SORTING, word)), 2000)
        for word in ["b" * 69 + "a" * 29, "b" * 41 + "a" * 50, "b" + word + "ab" + "a", "b" * 100 + "a" * 100]:
            self.assertRaises(TooLarge, normal_form, 2, SORTING, word)
            self.assertRaises(TooLarge, trace, 2, SORTING, word)
            self.assertIs(is_irreducible(2, SORTING, word), False)
            self.assertEqual(applied(2, SORTING, word, word.index("ba"), 0), word.replace("ba", "ab", 1))
        self.assertEqual(len(trace(2, SORTING, "b" * 40 + "a" * 50 + "b")), 2000)
        self.assertRaises(TooLarge, trace, 2, SORTING, "b" * 40 + "a" * 50 + "ba")
        self.assertRaises(TooLarge, normal_form, 2, SORTING + (("a" * 51, "a"),), "b" * 40 + "a" * 51)

    def test_traces_are_new(self):
        trace(1, INVOLUTION, "aA").clear()
        self.assertEqual(trace(1, INVOLUTION, "aA"), [(1, 1), (0, 0)])


class AppliedTest(unittest.TestCase):
    def test_where_rules_can_be_applied(self):
        for gens, system in some_systems(83, 60):
            for word in some_words(gens, 84, 8, 10):
                allowed = places_of(system, word)
                for place in range(-2, len(word) + 2):
                    for index in range(-2, len(system) + 2):
                        if (place, index) in allowed:
                            expected = plain_applied(system, word, place, index)
                            self.assertEqual(applied(gens, system, word, place, index), expected)
                        else:
                            self.assertRaises(BadNumber, applied, gens, system, word, place, index)

    def test_numbers_from_behind(self):
        self.assertRaises(BadNumber, applied, 1, INVOLUTION, "aa", -2, 0)
        self.assertRaises(BadNumber, applied, 1, INVOLUTION, "aa", 0, -2)
        self.assertRaises(BadNumber, applied, 1, INVOLUTION, "aa", 10 ** 30, 0)
        self.assertRaises(BadNumber, applied, 1, (), "aa", 0, 0)


class OrderOfErrorsTest(unittest.TestCase):
    def test_rules_first(self):
        for pair in NO_RULES:
            for function in OF_A_WORD:
                for word in ["a", "x", "a" * 201]:
                    with self.assertRaises(NotRule) as caught:
                        function(1, (("aa", ""), pair), word)
                    self.assertEqual(caught.exception.at, 1)
            for function in OF_A_SYSTEM:
                with self.assertRaises(NotRule) as caught:
                    function(1, (("aa", ""), pair))
                self.assertEqual(caught.exception.at, 1)
        for function in OF_A_WORD:
            self.assertRaises(NotRule, function, 2, SORTING * 81, "b" * 100 + "a" * 100)
        for function in OF_A_SYSTEM:
            self.assertRaises(NotRule, function, 2, SORTING * 81)

    def test_words_second(self):
        for word in STRANGERS + ["c", "abC", "b" * 100 + "a" * 101, "b" * 60 + "a" * 60 + "c"]:
            for function in OF_A_WORD:
                self.assertRaises(NotWord, function, 2, SORTING, word)
            self.assertRaises(NotWord, applied, 2, SORTING, word, -1, 7)


class CompleteTest(unittest.TestCase):
    def test_examples(self):
        self.assertIs(is_complete(1, INVOLUTION), True)
        self.assertIsNone(first_conflict(1, INVOLUTION))
        self.assertIs(is_complete(2, (("ab", "a"), ("ba", "b"))), False)
        self.assertEqual(first_conflict(2, (("ab", "a"), ("ba", "b"))), (0, 1, 1, "aba"))

    def test_known_systems(self):
        for gens, system in COMPLETE:
            self.assertIs(is_complete(gens, system), True, system)
            self.assertIsNone(first_conflict(gens, system))
        for gens, system in CONFLICTING:
            self.assertIs(is_complete(gens, system), False, system)
            self.assertIsNotNone(first_conflict(gens, system))

    def test_overlap_by_overlap(self):
        seen = {True: 0, False: 0}
        for gens, system in COMPLETE + CONFLICTING + some_systems(85, 400):
            conflicts = []
            for i, j, place, word in plain_overlaps(system):
                one, other = plain_applied(system, word, 0, i), plain_applied(system, word, place, j)
                if plain_form(system, one) != plain_form(system, other):
                    conflicts.append((i, j, place, word))
            self.assertEqual(first_conflict(gens, system), conflicts[0] if conflicts else None)
            self.assertIs(is_complete(gens, system), not conflicts)
            seen[not conflicts] += 1
        self.assertGreater(min(seen.values()), 50)

    def test_any_order_of_application(self):
        chance = random.Random(86)
        for gens, system in COMPLETE:
            for word in words_up_to(gens, 4) + some_words(gens, 87, 20, 20):
                here = word
                while places_of(system, here):
                    here = plain_applied(system, here, *chance.choice(places_of(system, here)))
                self.assertEqual(normal_form(gens, system, word), here)

    def test_reductions_that_are_too_large(self):
        # One result of the only overlap has 60 letters b ahead of 59 letters a.
        system = SORTING + (("C" * 59 + "c", "b" * 60), ("c" + "a" * 59, ""))
        self.assertEqual(overlaps(3, system), [(1, 2, 59, "C" * 59 + "c" + "a" * 59)])
        for function in OF_A_SYSTEM:
            self.assertRaises(TooLarge, function, 3, system)
        less = SORTING + (("C" * 34 + "c", "b" * 35), ("c" + "a" * 57, "a" * 30))
        self.assertEqual(first_conflict(3, less), (1, 2, 34, "C" * 34 + "c" + "a" * 57))

    def test_conflicts_ahead_of_what_is_too_large(self):
        system = (("ab", "a"), ("ab", "b")) + SORTING + (("C" * 59 + "c", "b" * 60), ("c" + "a" * 59, ""))
        self.assertEqual(first_conflict(3, system), (0, 1, 0, "ab"))
        self.assertIs(is_complete(3, system), False)
        self.assertRaises(NotComplete, tidied, 3, system)


class TidiedTest(unittest.TestCase):
    def test_rules_that_are_too_many(self):
        self.assertEqual(tidied(1, INVOLUTION), (("A", "a"), ("aa", "")))
        self.assertEqual(tidied(1, (("aaa", "a"), ("aA", ""), ("A", "a"), ("aa", ""))), (("A", "a"), ("aa", "")))
        self.assertEqual(tidied(1, (("a", ""), ("aa", "a"), ("A", "a"))), (("a", ""), ("A", "")))

    def test_equal_left_sides(self):
        system = (("aa", "A"), ("A", ""), ("aa", ""), ("A", ""))
        self.assertIs(is_complete(1, system), True)
        self.assertEqual(tidied(1, system), (("A", ""), ("aa", "")))
        self.assertEqual(tidied(2, (("b", ""), ("b", ""), ("b", ""))), (("b", ""),))

    def test_right_sides_that_can_be_rewritten(self):
        self.assertEqual(tidied(2, (("b", "a"), ("B", "b"), ("A", "a"))), (("A", "a"), ("b", "a"), ("B", "a")))
        self.assertEqual(tidied(1, (("AA", "aA"), ("A", "a"))), (("A", "a"),))

    def test_tidy(self):
        seen = 0
        for gens, system in COMPLETE + some_systems(88, 600):
            if not is_complete(gens, system):
                self.assertRaises(NotComplete, tidied, gens, system)
                continue
            seen += 1
            found = tidied(gens, system)
            lefts = [left for left, _ in found]
            self.assertEqual(lefts, sorted(lefts, key=plain_key))
            for k, (left, right) in enumerate(found):
                self.assertEqual(places_of(found, left), [(0, k)])
                self.assertEqual(places_of(found, right), [])
                self.assertIn(left, [old for old, _ in system])
            self.assertIs(is_complete(gens, found), True)
            self.assertEqual(tidied(gens, found), found)
            for word in words_up_to(gens, 3) + some_words(gens, 89, 5, 20):
                self.assertEqual(normal_form(gens, found, word), normal_form(gens, system, word))
        self.assertGreater(seen, 100)

    def test_only_one_tidied_system(self):
        one = FREE_TWO + (("ba", "ab"), ("bA", "Ab"), ("Ba", "aB"), ("BA", "AB"))
        more = (("BAb", "A"), ("baa", "aab"), ("abB", "a")) + one[::-1]
        self.assertEqual(tidied(2, more), tidied(2, one))

    def test_not_complete(self):
        for gens, system in CONFLICTING:
            self.assertRaises(NotComplete, tidied, gens, system)


if __name__ == "__main__":
    unittest.main()
