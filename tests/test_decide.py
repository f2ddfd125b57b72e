"""Promises [240] to [245]: answers, deciding, and deciders."""

import itertools
import random
import unittest

from cayleywalk.backed import first_fault, is_walk
from cayleywalk.certificates import shown
from cayleywalk.decide import Decider, decide, is_answer, shows
from cayleywalk.derive import is_derivation
from cayleywalk.errors import NotPresentation, NotWord, TooLarge
from cayleywalk.images import satisfies, tells_apart
from cayleywalk.letters import letters_of
from cayleywalk.rewrite import normal_form
from cayleywalk.search import first_images
from cayleywalk.solve import is_solution, solved, system_of
from cayleywalk.weights import combination, fits, weight_of
from answer_samples import BRAID, DEEP, FIVE, FOUR, FREE, KINDS, changed_answers
from chain_samples import GRID, GRID_CHAIN, TRIVIAL, TWO, TWO_CHAIN, trivial_rule
from family_samples import families, turned
from samples import NO_PRESENTATIONS, PRESENTATIONS, STRANGERS, plain_inverse, plain_reduced, some_words, words_up_to

SHOWN = {"equal": "same", "weights": "other", "images": "other", "system": "other", "open": "open"}


def some_pairs(presentation, seed, many, longest):
    """Return pairs of words, among them pairs that a relator or a cut makes equal."""
    chance = random.Random(seed)
    pairs = []
    for word in some_words(presentation[0], seed, many, longest):
        other = some_words(presentation[0], chance.randrange(10 ** 6), 1, longest)[0]
        at = chance.randint(0, len(word))
        pairs += [(word, other), (word, word[:at] + "aA" + word[at:])]
        for text in presentation[1]:
            if len(word + text) <= 60:
                pairs.append((word[:at] + text + word[at:], word))
    return pairs


class AnswerCase(unittest.TestCase):
    def assert_answers(self, presentation, one, other, answer):
        """Look at an answer by its parts."""
        self.assertIsInstance(answer, tuple)
        if answer[0] == "equal":
            _, chain, moves = answer
            self.assertIsNone(first_fault(presentation, chain))
            self.assertIsInstance(moves, list)
            self.assertIs(is_walk(presentation, chain, one, other, moves), True)
        elif answer[0] == "weights":
            self.assertIs(fits(presentation, answer[1]), True)
            self.assertNotEqual(weight_of(answer[1], one), weight_of(answer[1], other))
        elif answer[0] == "images":
            self.assertIs(tells_apart(presentation, answer[1], one, other), True)
        elif answer[0] == "system":
            _, chain, kept = answer
            self.assertIs(is_solution(presentation, chain, kept), True)
            system, gens = system_of(chain, kept), presentation[0]
            self.assertNotEqual(normal_form(gens, system, one), normal_form(gens, system, other))
        else:
            self.assertEqual(answer, ("open",))
        self.assertEqual(shows(answer), SHOWN[answer[0]])
        self.assertIs(is_answer(presentation, one, other, answer), True)
        self.assertEqual(shown(presentation, one, other, answer), SHOWN[answer[0]])

    def due(self, presentation, one, other):
        """Return the kind that the order of [242] makes due."""
        if plain_reduced(one) == plain_reduced(other):
            return "equal"
        if combination(presentation, one, other) is None:
            return "weights"
        for degree in (1, 2, 3):
            points = list(itertools.permutations(range(degree)))
            for images in itertools.product(points, repeat=presentation[0]):
                if satisfies(presentation, images) and tells_apart(presentation, images, one, other):
                    return "images"
        solution = solved(presentation)
        if solution is None:
            return "open"
        system = system_of(*solution)
        forms = [normal_form(presentation[0], system, word) for word in (one, other)]
        return "equal" if forms[0] == forms[1] else "system"


class DecideTest(AnswerCase):
    def test_kinds(self):
        for presentation, one, other, kind in KINDS:
            for pair in [(one, other), (other, one)]:
                answer = decide(presentation, *pair)
                self.assertEqual(answer[0], kind, (presentation, pair))
                self.assert_answers(presentation, *pair, answer)
        self.assertEqual({kind for _, _, _, kind in KINDS}, set(SHOWN))

    def test_order(self):
        seen = {}
        for at, presentation in enumerate(PRESENTATIONS + [BRAID, FIVE, FREE, (2, ("aaabb",)), (3, ("abcABC",))]):
            for one, other in some_pairs(presentation, 220 + at, 6, 8):
                answer = decide(presentation, one, other)
                self.assertEqual(answer[0], self.due(presentation, one, other))
                self.assert_answers(presentation, one, other, answer)
                seen[answer[0]] = True
        self.assertEqual(set(seen), set(SHOWN))

    def test_free_answers_have_the_empty_chain(self):
        for presentation in PRESENTATIONS:
            for word in some_words(presentation[0], 221, 5, 30):
                kind, chain, moves = decide(presentation, word + plain_inverse(word), "aA")
                self.assertEqual((kind, chain), ("equal", ()))
                self.assertEqual({move[0] for move in moves} - {"cut", "put"}, set())
                self.assertIs(is_derivation(presentation, word + plain_inverse(word), "aA", moves), True)

    def test_images_have_few_points(self):
        for presentation, one, other, kind in KINDS:
            if kind == "images":
                images = decide(presentation, one, other)[1]
                self.assertLessEqual(len(images[0]), 3)
        # Four points tell these words apart, three do not.
        self.assertIsNone(first_images(FOUR, "aa", "", most=3))
        self.assertIsNotNone(first_images(FOUR, "aa", "", most=4))
        self.assertEqual(decide(FOUR, "aa", "")[0], "system")

    def test_families_are_never_open(self):
        chance = random.Random(222)
        for family in families():
            presentation = chance.choice(turned(family))
            for one, other in some_pairs(presentation, chance.randrange(10 ** 6), 1, 12):
                answer = decide(presentation, one, other)
                self.assertNotEqual(answer[0], "open")
                self.assertIs(is_answer(presentation, one, other, answer), True)

    def test_long_words(self):
        for presentation, one, other in [
            (GRID, "ab" * 30, "a" * 30 + "b" * 30), (FREE, "ab" * 30, "ba" * 30), (TWO, "a" * 60, ""),
            ((3, ("abAB", "acAC", "bcBC")), "cba" * 20, "a" * 20 + "b" * 20 + "c" * 20), (FIVE, "a" * 60, ""),
        ]:
            self.assert_answers(presentation, one, other, decide(presentation, one, other))

    def test_presentations_then_words(self):
        for value in NO_PRESENTATIONS:
            self.assertRaises(NotPresentation, decide, value, "x", "x")
            self.assertRaises(NotPresentation, is_answer, value, "x", "x", ("open",))
            self.assertRaises(NotPresentation, Decider, value)
        decider = Decider(GRID)
        for word in STRANGERS + ["c", "aC", "a" * 61, "abAB" * 15 + "a", "a" * 201]:
            for pair in [(word, "a"), ("a", word), (word, word)]:
                self.assertRaises(NotWord, decide, GRID, *pair)
                self.assertRaises(NotWord, is_answer, GRID, *pair, ("open",))
                self.assertRaises(NotWord, is_answer, GRID, *pair, ("equal", (), []))
                self.assertRaises(NotWord, decider.answer, *pair)
        self.assertEqual(len(decider), 0)


class IsAnswerTest(AnswerCase):
    def test_open_is_one_for_all_words(self):
        for presentation, one, other, _ in KINDS:
            self.assertIs(is_answer(presentation, one, other, ("open",)), True)

    def test_answers_for_other_words(self):
        seen = {True: 0, False: 0}
        answers = [(presentation, decide(presentation, one, other)) for presentation, one, other, _ in KINDS]
        for presentation, one, other, _ in KINDS:
            for second, answer in answers:
                if second[0] != presentation[0] or answer[0] == "open":
                    continue
                found = is_answer(presentation, one, other, answer)
                seen[found] += 1
                if found:
                    self.assert_answers(presentation, one, other, answer)
                else:
                    self.assertEqual(shown(presentation, one, other, answer), "none")
        self.assertGreater(min(seen.values()), 20)

    def test_changed_answers(self):
        for presentation, one, other, kind in KINDS:
            for answer in changed_answers(presentation, one, other):
                expected = shown(presentation, one, other, answer) != "none"
                self.assertIs(is_answer(presentation, one, other, answer), expected)
                if answer != ("equal", (), [("cut", 0)]):
                    self.assertIs(expected, False, (presentation, one, other, answer))

    def test_one_part_changed(self):
        walk = [("add", 0, 0, 1), ("cut", 3), ("cut", 2)]
        self.assertIs(is_answer(GRID, "ba", "ab", ("equal", (), walk)), True)
        self.assertIs(is_answer(GRID, "ba", "ab", ("equal", GRID_CHAIN, walk)), True)
        self.assertIs(is_answer(GRID, "ba", "ab", ("equal", GRID_CHAIN, [("use", 0, 4, 1)])), True)
        for moves in [walk[:2], walk[1:], walk + [("cut", 0)], walk[::-1], [("use", 0, 5, 1)], [("use", 1, 4, 1)], []]:
            self.assertIs(is_answer(GRID, "ba", "ab", ("equal", GRID_CHAIN, moves)), False)
        self.assertIs(is_answer(GRID, "ab", "ba", ("equal", (), walk)), False)
        self.assertIs(is_answer(GRID, "ba", "ba", ("equal", (), walk)), False)
        for k in range(len(GRID_CHAIN)):
            left, right, moves = GRID_CHAIN[k]
            for entry in [(left, right, moves[1:]), (left, right, moves + (("cut", 9),)), (right, left, moves)]:
                chain = GRID_CHAIN[:k] + (entry,) + GRID_CHAIN[k + 1:]
                self.assertIs(is_answer(GRID, "ba", "ab", ("equal", chain, walk)), False)
        self.assertIs(is_answer(TWO, "a", "", ("weights", (2, (1,)))), True)
        for weights in [(0, (1,)), (2, (0,)), (2, (2,)), (3, (1,)), (4, (1,)), (1, (1,)), (2, (1, 1)), (2, ()), (-2, (1,))]:
            self.assertIs(is_answer(TWO, "a", "", ("weights", weights)), False)
        self.assertIs(is_answer(TWO, "a", "", ("weights", (4, (2,)))), True)
        self.assertIs(is_answer(TWO, "a", "", ("images", ((1, 0),))), True)
        self.assertIs(is_answer(TWO, "a", "A", ("images", ((1, 0),))), False)
        for images in [((0, 1),), ((1, 2, 0),), ((1, 1),), ((1, 0), (1, 0)), (), ((1, 0, 3),), ((1, 0) + (2,) * 7,)]:
            self.assertIs(is_answer(TWO, "a", "", ("images", images)), False)
        self.assertIs(is_answer(TWO, "a", "", ("system", TWO_CHAIN, (2, 3))), True)
        self.assertIs(is_answer(TWO, "a", "A", ("system", TWO_CHAIN, (2, 3))), False)
        for kept in [(), (2,), (3,), (0, 2, 4), (3, 2), (2, 2, 3), (-1, 3), (1, 3)]:
            self.assertIs(is_answer(TWO, "a", "", ("system", TWO_CHAIN, kept)), False)

    def test_too_large(self):
        chain = (trivial_rule("ba", "ab"), trivial_rule("C" * 59 + "c", "b" * 60), trivial_rule("c" + "a" * 59, ""))
        self.assertRaises(TooLarge, is_answer, TRIVIAL, "a", "", ("system", chain, (0, 1, 2)))
        self.assertIs(is_answer(TRIVIAL, "a", "", ("system", chain, (0, 1))), False)
        self.assertIs(is_answer(TRIVIAL, "a", "", ("equal", chain, [("take", 0, 0, 1)])), True)

    def test_shows(self):
        for answer in [("equal", (), []), ("weights", (0, ())), ("images", ()), ("system", (), ()), ("open",)]:
            self.assertEqual(shows(answer), SHOWN[answer[0]])


class NoContradictionTest(AnswerCase):
    def test_both_orders(self):
        for at, presentation in enumerate(PRESENTATIONS + [BRAID, FIVE, FREE]):
            for one, other in some_pairs(presentation, 230 + at, 5, 8):
                self.assertEqual(
                    shows(decide(presentation, one, other)), shows(decide(presentation, other, one)), (one, other),
                )

    def test_three_words(self):
        chance = random.Random(231)
        for presentation in PRESENTATIONS + [BRAID, FIVE]:
            words = words_up_to(presentation[0], 2) + list(presentation[1])
            found = {}
            for _ in range(25):
                three = [chance.choice(words) for _ in range(3)]
                for one, other in itertools.combinations(three, 2):
                    if (one, other) not in found:
                        found[one, other] = shows(decide(presentation, one, other))
                if found[three[0], three[1]] == found[three[1], three[2]] == "same":
                    self.assertNotEqual(found[three[0], three[2]], "other")

    def test_longer_words_and_inverses(self):
        chance = random.Random(232)
        seen = {"same": 0, "other": 0, "open": 0}
        for presentation, one, other, _ in KINDS:
            expected = shows(decide(presentation, one, other))
            seen[expected] += 1
            letters = letters_of(presentation[0])
            more = "".join(chance.choices(letters, k=4))
            for pair in [
                (more + one, more + other), (one + more, other + more), (plain_inverse(one), plain_inverse(other)),
                (more + one + more, more + other + more),
            ]:
                self.assertIn(shows(decide(presentation, *pair)), [expected, "open"] if expected != "open" else list(seen))
        self.assertGreater(min(seen.values()), 1)


class DeciderTest(AnswerCase):
    def test_answers(self):
        deciders = {}
        for presentation, one, other, kind in KINDS:
            decider = deciders.setdefault(presentation, Decider(presentation))
            answer = decider.answer(one, other)
            self.assertEqual(answer[0], kind)
            self.assert_answers(presentation, one, other, answer)

    def test_kept_answers_in_order(self):
        decider = Decider(GRID)
        self.assertEqual((len(decider), list(decider)), (0, []))
        given = []
        for one, other in some_pairs(GRID, 233, 10, 9):
            given.append(decider.answer(one, other))
            self.assertEqual(len(decider), len(given))
            self.assertEqual(list(decider), given)
        self.assertEqual([answer for answer in decider], given)
        self.assertEqual(sorted({answer[0] for answer in given}), ["equal", "weights"])

    def test_errors_are_not_kept(self):
        decider = Decider(TWO)
        decider.answer("a", "")
        self.assertRaises(NotWord, decider.answer, "b", "")
        self.assertRaises(NotWord, decider.answer, "", "a" * 61)
        self.assertEqual(len(decider), 1)

    def test_returned_lists_are_the_callers(self):
        decider = Decider(GRID)
        for one, other in [("aA", ""), ("ba", "ab")]:
            answer = decider.answer(one, other)
            kept = list(answer[2])
            answer[2].append("changed")
            self.assertEqual(list(decider)[-1][2], kept)
            self.assertEqual(decider.answer(one, other)[2], kept)

    def test_lists_of_an_iteration_stay(self):
        decider = Decider(GRID)
        answer = decider.answer("ba", "ab")
        for kept in decider:
            kept[2].append("changed")
        self.assertEqual([kept[2][-1] for kept in decider], ["changed"])
        self.assertEqual(answer[2] + ["changed"], list(decider)[0][2])
        self.assertIs(list(decider)[0][2], list(decider)[0][2])
        self.assertIsNot(answer[2], list(decider)[0][2])
        decider.answer("ba", "ab")
        self.assertEqual(list(decider)[1][2], answer[2])

    def test_solution(self):
        for presentation in [GRID, TWO, FIVE, FREE, (1, ())]:
            decider = Decider(presentation)
            chain, kept = decider.solution()
            self.assertIs(is_solution(presentation, chain, kept), True)
            decider.answer("a", "")
            self.assertEqual(decider.solution(), (chain, kept))
        self.assertIsNone(Decider(BRAID).solution())
        decider = Decider(FREE)
        self.assertEqual(decider.answer(DEEP, "")[1:], decider.solution())

    def test_deciders_apart(self):
        one, other = Decider(GRID), Decider(GRID)
        one.answer("a", "a")
        self.assertEqual((len(one), len(other)), (1, 0))


if __name__ == "__main__":
    unittest.main()
