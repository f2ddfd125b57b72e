"""Promises [120], [124], [125] and [129]: rules, systems, their overlaps, the free rules."""

import unittest

from cayleywalk.errors import BadNumber, NotRule
from cayleywalk.rewrite import is_complete, normal_form, tidied
from cayleywalk.rules import check_system, free_rules, overlaps, results
from row_samples import plain_key
from rule_samples import COMPLETE, CONFLICTING, NO_RULES, plain_applied, plain_overlaps, some_systems
from samples import plain_reduced, some_words, words_up_to


class RulesTestCase(unittest.TestCase):
    def assert_not_rule(self, gens, system, at):
        for function in (check_system, overlaps, lambda gens, system: results(gens, system, (0, 0, 1, "aaa"))):
            with self.assertRaises(NotRule) as caught:
                function(gens, system)
            self.assertEqual(caught.exception.at, at)


class CheckSystemTest(RulesTestCase):
    def test_systems(self):
        for gens, system in COMPLETE + CONFLICTING + some_systems(71, 60):
            self.assertIsNone(check_system(gens, system))
            self.assertIsNone(check_system(3, system))
        self.assertIsNone(check_system(1, (("a" * 60, ""), ("A" * 60, "a" * 60))))
        self.assertIsNone(check_system(1, (("a", ""), ("a", ""), ("aA", "A"))))

    def test_no_rules(self):
        for pair in NO_RULES:
            self.assert_not_rule(1, (pair,), 0)
            self.assert_not_rule(1, (("a", ""), pair), 1)
            self.assert_not_rule(1, (("a", ""), ("A", ""), pair, ("", "a"), pair), 2)

    def test_all_pairs_of_short_words(self):
        for left in words_up_to(2, 2):
            for right in words_up_to(2, 2):
                if plain_key(right) < plain_key(left):
                    self.assertIsNone(check_system(2, ((left, right),)))
                else:
                    self.assert_not_rule(2, ((left, right),), 0)

    def test_shortlex_is_not_the_order_of_strings(self):
        self.assertIsNone(check_system(1, (("A", "a"),)))
        self.assert_not_rule(1, (("a", "A"),), 0)
        self.assertIsNone(check_system(2, (("b", "A"), ("B", "b"), ("bb", "aB"))))

    def test_letters_of_further_generators(self):
        self.assert_not_rule(1, (("ab", ""),), 0)
        self.assert_not_rule(2, (("ab", ""), ("abc", "a")), 1)
        self.assert_not_rule(2, (("ab", ""), ("ab", "a"), ("abb", "C")), 2)
        self.assertIsNone(check_system(3, (("abc", "C"),)))
        self.assert_not_rule(3, (("abd", "C"),), 0)

    def test_number_of_rules(self):
        self.assertIsNone(check_system(1, (("a", ""),) * 80))
        self.assert_not_rule(1, (("a", ""),) * 81, 80)
        self.assert_not_rule(1, (("a", ""),) * 200, 80)
        self.assert_not_rule(1, (("a", ""),) * 79 + (("", ""),) + (("a", ""),) * 5, 79)
        self.assert_not_rule(1, (("a", ""),) * 85 + (("", ""),), 80)
        self.assert_not_rule(1, (("", ""),) * 81, 0)

    def test_number_of_generators(self):
        for gens in (0, 4, -1, 10 ** 30):
            self.assertRaises(BadNumber, check_system, gens, ())
            self.assertRaises(BadNumber, check_system, gens, (("", ""),))
            self.assertRaises(BadNumber, free_rules, gens)
        for gens in (1, 2, 3):
            self.assertIsNone(check_system(gens, ()))


class OverlapsTest(RulesTestCase):
    def test_examples(self):
        system = (("aa", ""), ("A", "a"))
        self.assertEqual(overlaps(1, system), [(0, 0, 1, "aaa")])
        self.assertEqual(results(1, system, (0, 0, 1, "aaa")), ("a", "a"))
        system = (("ab", "a"), ("ba", "b"))
        self.assertEqual(overlaps(2, system), [(0, 1, 1, "aba"), (1, 0, 1, "bab")])
        self.assertEqual(results(2, system, (0, 1, 1, "aba")), ("aa", "ab"))
        self.assertEqual(overlaps(2, ()), [])

    def test_contained(self):
        system = (("abab", ""), ("ab", "b"), ("b", "A"))
        self.assertEqual(overlaps(2, system), [
            (0, 0, 2, "ababab"), (0, 1, 0, "abab"), (0, 1, 2, "abab"), (0, 2, 1, "abab"), (0, 2, 3, "abab"),
            (1, 2, 1, "ab"),
        ])
        self.assertEqual(results(2, system, (0, 1, 2, "abab")), ("", "abb"))
        self.assertEqual(results(2, system, (0, 2, 1, "abab")), ("", "aAab"))

    def test_equal_rules(self):
        self.assertEqual(overlaps(1, (("a", ""), ("a", ""))), [(0, 1, 0, "a"), (1, 0, 0, "a")])
        self.assertEqual(overlaps(1, (("aa", "a"), ("aa", ""))), [
            (0, 0, 1, "aaa"), (0, 1, 0, "aa"), (0, 1, 1, "aaa"), (1, 0, 0, "aa"), (1, 0, 1, "aaa"), (1, 1, 1, "aaa"),
        ])

    def test_ends_at_the_same_place(self):
        self.assertEqual(overlaps(2, (("aab", ""), ("ab", ""))), [(0, 1, 1, "aab")])
        self.assertEqual(overlaps(2, (("baa", ""), ("ba", ""))), [(0, 1, 0, "baa")])

    def test_with_itself(self):
        self.assertEqual(overlaps(1, (("aaaa", ""),)), [(0, 0, 1, "aaaaa"), (0, 0, 2, "aaaaaa"), (0, 0, 3, "aaaaaaa")])
        self.assertEqual(overlaps(2, (("aba", ""),)), [(0, 0, 2, "ababa")])

    def test_found_letter_by_letter(self):
        for gens, system in COMPLETE + CONFLICTING + some_systems(72, 300):
            found = overlaps(gens, system)
            self.assertEqual(found, plain_overlaps(system))
            self.assertEqual([row[:3] for row in found], sorted(row[:3] for row in found))
            for i, j, place, word in found:
                expected = (plain_applied(system, word, 0, i), plain_applied(system, word, place, j))
                self.assertEqual(results(gens, system, (i, j, place, word)), expected)

    def test_lists_are_new(self):
        system = (("aa", ""), ("A", "a"))
        overlaps(1, system).clear()
        self.assertEqual(overlaps(1, system), [(0, 0, 1, "aaa")])


class FreeRulesTest(RulesTestCase):
    def test_rules(self):
        self.assertEqual(free_rules(1), (("aA", ""), ("Aa", "")))
        self.assertEqual(free_rules(2), (("aA", ""), ("Aa", ""), ("bB", ""), ("Bb", "")))
        self.assertEqual(free_rules(3), free_rules(2) + (("cC", ""), ("Cc", "")))

    def test_complete(self):
        for gens in (1, 2, 3):
            self.assertIs(is_complete(gens, free_rules(gens)), True)
            self.assertEqual(tidied(gens, free_rules(gens)), free_rules(gens))

    def test_reduced_forms(self):
        for gens in (1, 2, 3):
            for word in words_up_to(gens, 4 if gens < 3 else 3) + some_words(gens, 73, 20, 60):
                self.assertEqual(normal_form(gens, free_rules(gens), word), plain_reduced(word))


if __name__ == "__main__":
    unittest.main()
