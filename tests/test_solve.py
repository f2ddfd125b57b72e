"""Promises [144] to [148]: kept rules, solutions, meetings of words, the search for solutions."""

import random
import unittest

from cayleywalk.backed import first_fault, is_walk, unfolded
from cayleywalk.derive import is_derivation
from cayleywalk.errors import BadNumber, NotPresentation, NotWord, TooLarge
from cayleywalk.letters import letters_of
from cayleywalk.rewrite import normal_form, trace
from cayleywalk.solve import is_solution, meeting, solved, system_of
from chain_samples import GRID, GRID_CHAIN, TRIVIAL, TWO, TWO_CHAIN, trivial_rule
from family_samples import families, turned
from rule_samples import plain_applied, plain_form, plain_overlaps
from samples import NO_PRESENTATIONS, PRESENTATIONS, STRANGERS, plain_inverse, some_words, words_up_to


def order_of_elements(gens, system):
    """Return the number of irreducible words, or None if some have 13 letters."""
    layer, many = [""], 0
    for _ in range(13):
        many += len(layer)
        layer = [word + letter for word in layer for letter in letters_of(gens)]
        layer = [word for word in layer if not any(left in word for left, _ in system)]
    return many if not layer else None


class SystemOfTest(unittest.TestCase):
    def test_kept_rules(self):
        self.assertEqual(system_of(TWO_CHAIN, (2, 3)), (("aa", ""), ("A", "a")))
        self.assertEqual(system_of(TWO_CHAIN, ()), ())
        self.assertEqual(system_of((), ()), ())
        self.assertEqual(system_of(TWO_CHAIN, (0, 1, 2, 3)), tuple(entry[:2] for entry in TWO_CHAIN))

    def test_other_indexes(self):
        for kept in [(3, 2), (2, 2), (1, 3, 3), (0, 2, 1), (4,), (2, 4), (-1,), (-1, 2), (10 ** 30,), (0, 1, 2, 3, 4)]:
            self.assertRaises(BadNumber, system_of, TWO_CHAIN, kept)
            self.assertIs(is_solution(TWO, TWO_CHAIN, kept), False)
        self.assertRaises(BadNumber, system_of, (), (0,))

    def test_number_of_rules(self):
        chain = TWO_CHAIN[:2] * 60
        self.assertEqual(len(system_of(chain, tuple(range(80)))), 80)
        self.assertRaises(BadNumber, system_of, chain, tuple(range(81)))
        self.assertEqual(len(system_of(chain, tuple(range(40, 120)))), 80)


class IsSolutionTest(unittest.TestCase):
    def test_examples(self):
        self.assertIs(is_solution(TWO, TWO_CHAIN, (2, 3)), True)
        self.assertIs(is_solution(GRID, GRID_CHAIN, tuple(range(8))), True)
        self.assertIs(is_solution((1, ()), TWO_CHAIN[:2], (0, 1)), True)
        self.assertIs(is_solution(TWO, TWO_CHAIN, (0, 1, 2, 3)), True)

    def test_rules_left_out(self):
        for kept in [(), (0,), (1,), (2,), (3,), (0, 1), (0, 2), (0, 3), (1, 3), (0, 1, 2), (0, 1, 3)]:
            self.assertIs(is_solution(TWO, TWO_CHAIN, kept), False)
        for k in range(8):
            kept = tuple(at for at in range(8) if at != k)
            self.assertIs(is_solution(GRID, GRID_CHAIN, kept), False)

    def test_complete_is_not_enough(self):
        # Complete, but the relator, or a letter with its inverse, is irreducible.
        self.assertIs(is_solution(TWO, TWO_CHAIN[:2], (0, 1)), False)
        self.assertIs(is_solution((2, ("aa",)), TWO_CHAIN, (2, 3)), False)
        self.assertIs(is_solution((1, ("aa", "aaa")), TWO_CHAIN, (2, 3)), False)
        self.assertIs(is_solution((1, ("aa", "aaaa", "AA")), TWO_CHAIN, (2, 3)), True)
        self.assertIs(is_solution((1, ()), (), ()), False)

    def test_sound_is_needed(self):
        backed = TWO_CHAIN[:3] + (("A", "a", (("add", 0, 0, 1),)),)
        self.assertIs(is_solution(TWO, backed, (2, 3)), False)
        self.assertIs(is_solution(TWO, TWO_CHAIN + (("a", "", ()),), (2, 3)), False)
        self.assertIs(is_solution(TWO, TWO_CHAIN + TWO_CHAIN[:1] * 116, (2, 3)), True)
        self.assertIs(is_solution(TWO, TWO_CHAIN + TWO_CHAIN[:1] * 117, (2, 3)), False)
        self.assertIs(is_solution((1, ("aaa",)), TWO_CHAIN, (2, 3)), False)
        self.assertIs(is_solution((1, ("a",)), TWO_CHAIN, (2, 3)), False)

    def test_too_large(self):
        chain = [trivial_rule("ba", "ab"), trivial_rule("C" * 59 + "c", "b" * 60), trivial_rule("c" + "a" * 59, "")]
        self.assertIsNone(first_fault(TRIVIAL, tuple(chain)))
        self.assertRaises(TooLarge, is_solution, TRIVIAL, tuple(chain), (0, 1, 2))
        self.assertIs(is_solution(TRIVIAL, tuple(chain), (0, 1)), False)
        self.assertIs(is_solution(TRIVIAL, tuple(chain), (0, 2, 1)), False)

    def test_presentation_first(self):
        for value in NO_PRESENTATIONS:
            self.assertRaises(NotPresentation, is_solution, value, (("", "", ()),), (7, 3))
            self.assertRaises(NotPresentation, meeting, value, (), (7, 3), "x", "x")
            self.assertRaises(NotPresentation, solved, value)


class MeetingTest(unittest.TestCase):
    def test_examples(self):
        self.assertEqual(meeting(TWO, TWO_CHAIN, (2, 3), "aA", ""), [("use", 1, 3, 1), ("use", 0, 2, 1)])
        self.assertEqual(meeting(TWO, TWO_CHAIN, (2, 3), "", "aA"), [("use", 0, 2, -1), ("use", 1, 3, -1)])
        self.assertEqual(meeting(TWO, TWO_CHAIN, (2, 3), "a", "a"), [])
        self.assertIsNone(meeting(TWO, TWO_CHAIN, (2, 3), "a", ""))
        self.assertEqual(meeting(TWO, TWO_CHAIN, (2, 3), "A", "A"), [("use", 0, 3, 1), ("use", 0, 3, -1)])

    def test_traces(self):
        for presentation, chain, kept in [(TWO, TWO_CHAIN, (2, 3)), (GRID, GRID_CHAIN, tuple(range(8)))]:
            system = system_of(chain, kept)
            gens = presentation[0]
            words = words_up_to(gens, 3) + some_words(gens, 111, 15, 60)
            seen = {True: 0, False: 0}
            for one, other in zip(words + words, words[7:] + [plain_inverse(word) for word in words]):
                found = meeting(presentation, chain, kept, one, other)
                same = normal_form(gens, system, one) == normal_form(gens, system, other)
                seen[same] += 1
                if not same:
                    self.assertIsNone(found)
                    continue
                there = [("use", place, kept[k], 1) for place, k in trace(gens, system, one)]
                back = [("use", place, kept[k], -1) for place, k in trace(gens, system, other)]
                self.assertEqual(found, there + back[::-1])
                self.assertIs(is_walk(presentation, chain, one, other, found), True)
            self.assertGreater(min(seen.values()), 5)

    def test_equal_words(self):
        kept = tuple(range(8))
        word = "abAB" * 10 + "baabB"
        other = "".join(sorted(word))
        found = meeting(GRID, GRID_CHAIN, kept, word, other)
        self.assertIs(is_walk(GRID, GRID_CHAIN, word, other, found), True)
        short = meeting(GRID, GRID_CHAIN, kept, "BabA", "")
        derivation = unfolded(GRID, GRID_CHAIN, "BabA", short)
        self.assertIs(is_derivation(GRID, "BabA", "", derivation), True)

    def test_words(self):
        for word in STRANGERS + ["b", "a" * 61, "a" * 201]:
            self.assertRaises(NotWord, meeting, TWO, TWO_CHAIN, (2, 3), word, "a")
            self.assertRaises(NotWord, meeting, TWO, TWO_CHAIN, (2, 3), "a", word)
        self.assertEqual(len(meeting(TWO, TWO_CHAIN, (2, 3), "a" * 60, "")), 30)


class SolvedTest(unittest.TestCase):
    def assert_solves(self, presentation, solution):
        chain, kept = solution
        self.assertIs(is_solution(presentation, chain, kept), True)
        self.assertIsNone(first_fault(presentation, chain))
        self.assertLessEqual(len(chain), 120)
        self.assertLessEqual(len(kept), 80)

    def test_families(self):
        for family in families():
            for presentation in turned(family):
                solution = solved(presentation)
                self.assertIsNotNone(solution, presentation)
                self.assert_solves(presentation, solution)
                self.assertLessEqual(sum(len(left) for left, _ in system_of(*solution)), 600)

    def test_families_looked_at_plainly(self):
        for presentation in families():
            system = system_of(*solved(presentation))
            for i, j, place, word in plain_overlaps(system):
                one, other = plain_applied(system, word, 0, i), plain_applied(system, word, place, j)
                self.assertEqual(plain_form(system, one), plain_form(system, other))
            letters = letters_of(presentation[0])
            for text in [letter + letter.swapcase() for letter in letters] + list(presentation[1]):
                self.assertEqual(plain_form(system, text), "")

    def test_number_of_elements(self):
        known = [
            ((1, ("aaaaaaaa",)), 8), ((2, ("aaa", "bbbb", "abAB")), 12), ((2, ("aaaaaa", "bbbbbb", "abAB")), 36),
            ((3, ("aaa", "bbb", "ccc", "abAB", "acAC", "bcBC")), 27), ((2, ("aaaa", "bbb", "abAb")), 12),
            ((2, ("aaaaaa", "bb", "abab")), 12), ((2, ("a", "bb", "abab")), 2), ((2, ("aa", "bb", "abababab")), 8),
            ((2, ("aa", "bb", "ab")), 2), ((3, ("a", "b", "c")), 1), ((3, ("aa", "b")), None), ((2, ("aa", "bb")), None),
        ]
        for presentation, size in known:
            for other in turned(presentation):
                self.assertEqual(order_of_elements(other[0], system_of(*solved(other))), size)

    def test_steps(self):
        for gens, relators in families():
            system = system_of(*solved((gens, relators)))
            words = ["B" * 30 + "A" * 30, "b" * 30 + "a" * 30, "A" * 60, "ba" * 30]
            if gens == 1:
                words = ["A" * 60, "a" * 60, "Aa" * 30]
            if gens == 3:
                words = ["C" * 20 + "B" * 20 + "A" * 20, "c" * 20 + "b" * 20 + "a" * 20, "cBa" * 20]
            for word in words + some_words(gens, 112, 2, 60):
                self.assertLessEqual(len(trace(gens, system, word)), 2000)

    def test_other_groups(self):
        known = [
            ((2, ("aa", "bbb", "ababababab")), 60), ((2, ("aaBB", "abaB")), 8), ((3, ("abC", "bcA", "caB")), 8),
            ((2, ("aa", "bbb", "abababab")), 24), ((1, ("aAa", "aaaa")), 1), ((2, ("abAB", "aabb", "aaaa")), 8),
        ]
        for presentation, size in known:
            solution = solved(presentation)
            if solution is not None:
                self.assert_solves(presentation, solution)
                self.assertEqual(order_of_elements(presentation[0], system_of(*solution)), size)

    def test_solution_or_none(self):
        chance = random.Random(113)
        found = 0
        presentations = list(PRESENTATIONS)
        for _ in range(60):
            gens = chance.randint(1, 3)
            relators = some_words(gens, chance.randrange(10 ** 6), chance.randint(0, 8), chance.choice([3, 6, 20]))
            presentations.append((gens, tuple(text for text in relators if text)))
        presentations += [(2, ("aaa", "bbb", "ababab")), (2, ("aaabb",)), (2, ("aa", "bbb", "ab" * 6)), (2, ("abaBAB",))]
        for presentation in presentations:
            solution = solved(presentation)
            if solution is not None:
                self.assert_solves(presentation, solution)
                found += 1
        self.assertGreater(found, 20)

    def test_solutions_decide(self):
        for presentation, equal, other in [
            (GRID, ("aab", "aba"), ("ab", "a")), ((2, ("abAb",)), ("ab", "Ba"), ("ab", "ba")),
            ((2, ("aaa", "bb", "abab")), ("ba", "Ab"), ("ba", "ab")), (TWO, ("A", "a"), ("a", "")),
        ]:
            chain, kept = solved(presentation)
            walk = meeting(presentation, chain, kept, *equal)
            self.assertIs(is_walk(presentation, chain, *equal, walk), True)
            self.assertIs(is_derivation(presentation, *equal, unfolded(presentation, chain, equal[0], walk)), True)
            self.assertIsNone(meeting(presentation, chain, kept, *other))


if __name__ == "__main__":
    unittest.main()
